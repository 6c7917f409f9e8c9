/- FnCityValid: whatever the input, the law returns true, and its arguments read as they did. No conditions beyond those of the statement's row. -/
import Derived.Test.YtidppabconifkaaYe
import Derived.Test.YtidppabconifkaaYh
import Derived.Test.YtidppabconifkaaLp
namespace Go.Proofs.Ytidppabconifkaa.fnCityValid
open Go.Proofs.Ytidppabconifkaa
open Go.ChangeShapes Go.WideShapes Go.ChangeAt Go.RowKit Go.Joins
set_option linter.unusedVariables false
set_option linter.unusedSimpArgs false
set_option linter.unnecessarySimpa false

theorem own : ownKnob Try.prog.godebug = none := by kernel_rfl
theorem laidOut : laidOutB Try.prog = true := by kernel_rfl

set_option maxRecDepth 100000 in
set_option maxHeartbeats 4000000 in
theorem walk (w : World) (a0 : Option Addr) (len0 cap0 : Nat) (w0 : CodeOk w a0 len0 cap0) :
    Calls Try.prog 3 #[.slice a0 len0 cap0] w fun e w' => e = .returned (.bool true) ∧ Below w.heap.size w w' := by
  by_cases hl : 1048576 < len0
  · have w0' := w0.2.1
    unfold maxLen at w0'
    clear w0
    go_enter Try.func3, Try.ntmps3
    go_wp2
    go_ret
    exact ⟨rfl, Below.refl _ _⟩
  · have w0' := w0.2.1
    unfold maxLen at w0'
    have hle := w0.1
    have HW := Lib.hid w0
    clear w0
    go_enter Try.func3, Try.ntmps3
    obtain ⟨i0, hi0, hz0, hz1, hz2⟩ := info_parts infoNum
    have HI := Lib.hid (And.intro hi0 (And.intro hz0 (And.intro hz1 hz2)))
    clear hi0 hz0 hz1 hz2
    go_wp2_with fail
    refine (drCityValid_any _ _ _ _ HW.out).mono ?_; rintro e w1 ⟨d, xs, A, cp, rfl, ⟨d0, d1⟩, hx6, hO0, hB0⟩
    obtain ⟨m, hm⟩ : ∃ m, xs.length = m := ⟨_, rfl⟩
    rw [hm] at hx6 ⊢
    have HM := Lib.hid hm
    clear hm
    obtain ⟨hcp, _⟩ := hO0.cap
    rw [HM.out] at hcp
    have HE0 : Hid (cvB 0 [] = false) := Lib.hid (rfl)
    obtain ⟨v, hv⟩ : ∃ v, cvB d xs = v := ⟨_, rfl⟩
    have HV := Lib.hid hv
    cases v
    · clear hv
      have hP1 : (w1.alloc (.cells #[.int .i64 d, .slice A m cp] 25)).heap[w1.heap.size]? = some (.cells #[.int .i64 d, .slice A m cp] 25) := by have := blk_new (w1) (.cells #[.int .i64 d, .slice A m cp] 25); simpa using this
      have hB1 := hB0.alloc hB0.size (.cells #[.int .i64 d, .slice A m cp] 25)
      have hO1 := hO0.next (bel1 _ (.cells #[.int .i64 d, .slice A m cp] 25))
      have zBP := hB0.size
      obtain ⟨cP1_0, cP1_1, fP1_0, fP1_1, zP1⟩ := blk2 hP1
      go_wp2_with fail
      refine (iCv_is d A cp xs _ HM.out hO1.row (by omega) HV.out).mono ?_; rintro e' w2 ⟨rfl, hw2⟩
      have hP2 := blk_next hP1 hw2
      have hO2 := hO1.next hw2
      have hB2 := bel_next hB1 hw2
      obtain ⟨cP2_0, cP2_1, fP2_0, fP2_1, zP2⟩ := blk2 hP2
      go_wp2_with fail
      refine (sCv_is d A cp xs _ HM.out hO2.row (by omega) HV.out).mono ?_; rintro e' w3 ⟨rfl, hw3⟩
      have hP3 := blk_next hP2 hw3
      have hO3 := hO2.next hw3
      have hB3 := bel_next hB2 hw3
      obtain ⟨cP3_0, cP3_1, fP3_0, fP3_1, zP3⟩ := blk2 hP3
      go_wp2_with fail
      refine (iCv_is (n := 0) 0 none 0 [] _ rfl (SRow.nil _ _) (by omega) HE0.out).mono ?_; rintro e' w4 ⟨rfl, hw4⟩
      have hP4 := blk_next hP3 hw4
      have hO4 := hO3.next hw4
      have hB4 := bel_next hB3 hw4
      go_wp2_with fail
      refine (alive_any _).mono ?_; rintro e' w' ⟨rfl, rfl⟩
      go_wp2
      go_ret
      exact ⟨rfl, hB4⟩
    · obtain ⟨hm1, hm36⟩ := cv_len hv
      rw [HM.out] at hm1 hm36
      obtain ⟨j, rfl⟩ : ∃ j, m = j + 1 := ⟨m - 1, by omega⟩
      have HZV : Hid (cvB d (List.replicate (j + 1) 0) = true) := Lib.hid (by have h1 := cvB_iff.1 hv; exact cvB_iff.2 ⟨h1.1, by rw [List.length_replicate, ← HM.out]; exact h1.2.1, fun t ht => by have := List.eq_of_mem_replicate ht; omega⟩)
      have HZL : Hid ((List.replicate (j + 1) (0 : Int)).length = j + 1) := Lib.hid (by simp)
      have HCL : Hid ((xs.take j).length = j) := Lib.hid (by rw [List.length_take, HM.out]; omega)
      have HCV : Hid (cvB d (xs.take j) = false) := Lib.hid (by cases hc : cvB d (xs.take j); rfl; have h1 := (cvB_iff.1 hv).2.1; have h2 := (cvB_iff.1 hc).2.1; rw [HCL.out] at h2; rw [HM.out] at h1; omega)
      have hjw : IntKind.i64.wrap (((j + 1 : Nat) : Int) - 1) = (j : Int) := by rw [IntWalk.i64_in _ (by omega)]; omega
      have HJW := Lib.hid hjw
      have hjc : j ≤ cp := by omega
      have hjci : (j : Int) ≤ (cp : Int) := by omega
      have hbj : i0.bytes * (j + 1) ≤ 281474976710656 := by rw [HI.out.2.2.2]; omega
      have HBJ := Lib.hid hbj
      clear hv hjw hbj
      have hP1 : (w1.alloc (.cells #[.int .i64 d, .slice A (j + 1) cp] 25)).heap[w1.heap.size]? = some (.cells #[.int .i64 d, .slice A (j + 1) cp] 25) := by have := blk_new (w1) (.cells #[.int .i64 d, .slice A (j + 1) cp] 25); simpa using this
      have hB1 := hB0.alloc hB0.size (.cells #[.int .i64 d, .slice A (j + 1) cp] 25)
      have hO1 := hO0.next (bel1 _ (.cells #[.int .i64 d, .slice A (j + 1) cp] 25))
      have zBP := hB0.size
      obtain ⟨cP1_0, cP1_1, fP1_0, fP1_1, zP1⟩ := blk2 hP1
      go_wp2_with fail
      refine (iCv_is d A cp xs _ HM.out hO1.row (by omega) HV.out).mono ?_; rintro e' w2 ⟨rfl, hw2⟩
      have hP2 := blk_next hP1 hw2
      have hO2 := hO1.next hw2
      have hB2 := bel_next hB1 hw2
      obtain ⟨cP2_0, cP2_1, fP2_0, fP2_1, zP2⟩ := blk2 hP2
      go_wp2_with fail
      refine (sCv_is d A cp xs _ HM.out hO2.row (by omega) HV.out).mono ?_; rintro e' w3 ⟨rfl, hw3⟩
      have hP3 := blk_next hP2 hw3
      have hO3 := hO2.next hw3
      have hB3 := bel_next hB2 hw3
      obtain ⟨cP3_0, cP3_1, fP3_0, fP3_1, zP3⟩ := blk2 hP3
      have hjw := HJW.out
      have hjw2 : IntKind.i64.wrap (j : Int) = (j : Int) := IntWalk.i64_in _ (by omega)
      go_wp2_with fail
      refine wp_region_held_drew (S := (fun w' => w'.heap[w1.heap.size]? = some (.cells #[.int .i64 d, .slice A (j + 1) cp] 25) ∧ SOwn encNum w' w.heap.size 3 A cp xs ∧ Below w.heap.size w w')) (by kernel_rfl) ⟨hP3, hO3.drew, hB3.drew⟩ (fun hHeld => ?_)
      obtain ⟨hP_0, hO_0, hB_0⟩ := id hHeld
      refine wpAnyH_take (i := 0) (oi := _) (v := ?_) rfl (by kernel_rfl) (by kernel_rfl) (by kernel_rfl) (fun _ _ _ h => h) (Or.inl ⟨by rfl, ?_⟩) (by assumption) ?_
      (rotate_left); (focus (intro wv hSw; (obtain ⟨qP, qO, qB⟩ := hSw); obtain ⟨u0_, u1_, _, _, _⟩ := blk2 qP; go_simp; (try with_reducible rfl)))
      try simp only [Act.put, List.getElem_toArray, List.getElem_cons_succ, List.getElem_cons_zero, List.setIfInBounds_toArray, List.set_cons_zero, List.set_cons_succ]
      refine wpAnyH_take (i := 1) (oi := _) (v := ?_) rfl (by kernel_rfl) (by kernel_rfl) (by kernel_rfl) (fun _ _ _ h => h) (Or.inl ⟨by rfl, ?_⟩) (by assumption) ?_
      (rotate_left); (focus (intro wv hSw; (obtain ⟨qP, qO, qB⟩ := hSw); obtain ⟨u0_, u1_, _, _, _⟩ := blk2 qP; go_simp; (try with_reducible rfl)))
      try simp only [Act.put, List.getElem_toArray, List.getElem_cons_succ, List.getElem_cons_zero, List.setIfInBounds_toArray, List.set_cons_zero, List.set_cons_succ]
      refine wpAnyH_take (i := 2) (oi := _) (v := ?_) rfl (by kernel_rfl) (by kernel_rfl) (by kernel_rfl) (fun _ _ _ h => h) (Or.inl ⟨by rfl, ?_⟩) (by assumption) ?_
      (rotate_left); (focus (intro wv hSw; (obtain ⟨qP, qO, qB⟩ := hSw); obtain ⟨u0_, u1_, _, _, _⟩ := blk2 qP; go_simp; (try with_reducible rfl)))
      try simp only [Act.put, List.getElem_toArray, List.getElem_cons_succ, List.getElem_cons_zero, List.setIfInBounds_toArray, List.set_cons_zero, List.set_cons_succ]
      refine wpAnyH_take (i := 3) (oi := _) (v := ?_) rfl (by kernel_rfl) (by kernel_rfl) (by kernel_rfl) (fun _ _ _ h => h) (Or.inl ⟨by rfl, ?_⟩) (by assumption) ?_
      (rotate_left); (focus (intro wv hSw; (obtain ⟨qP, qO, qB⟩ := hSw); obtain ⟨u0_, u1_, _, _, _⟩ := blk2 qP; go_simp; (try with_reducible rfl)))
      try simp only [Act.put, List.getElem_toArray, List.getElem_cons_succ, List.getElem_cons_zero, List.setIfInBounds_toArray, List.set_cons_zero, List.set_cons_succ]
      refine wpAnyH_take (i := 4) (oi := _) (v := ?_) rfl (by kernel_rfl) (by kernel_rfl) (by kernel_rfl) (fun _ _ _ h => h) (Or.inl ⟨by rfl, ?_⟩) (by assumption) ?_
      (rotate_left); (focus (intro wv hSw; (obtain ⟨qP, qO, qB⟩ := hSw); obtain ⟨u0_, u1_, _, _, _⟩ := blk2 qP; go_simp; (try with_reducible rfl)))
      try simp only [Act.put, List.getElem_toArray, List.getElem_cons_succ, List.getElem_cons_zero, List.setIfInBounds_toArray, List.set_cons_zero, List.set_cons_succ]
      refine wpAnyH_ready (rs := [5]) (by kernel_rfl) (by simp) ?_
      refine AllReadyH.cons (o := _) rfl (fun K hK => ?_) AllReadyH.nil
      rw [if_pos (by kernel_rfl)]
      refine wp_make_structsY _ encNum (0 : Int) _ _ 23 rfl 3 i0 _ Try.underlying23 HI.out.1 HI.out.2.1 HI.out.2.2.1 rfl .i64 .i64 (j + 1) rfl rfl HBJ.out (by omega) ?_
      refine hK.out _ _ ⟨blk_old hP_0 _, hO_0.alloc _, hB_0.alloc hB_0.size _⟩ (fun hHeld => ?_)
      clear hK K
      try simp only [Act.put, List.getElem_toArray, List.getElem_cons_succ, List.getElem_cons_zero, List.setIfInBounds_toArray, List.set_cons_zero, List.set_cons_succ]
      obtain ⟨hP_0k, hO_0k, hB_0k⟩ := id hHeld
      have hZb : SBlk encNum (w3.drew.alloc (.cells (encNum.flat (List.replicate (j + 1) (0 : Int))).toArray 3)) w3.heap.size 3 (List.replicate (j + 1) 0) := blk_new w3.drew (.cells (encNum.flat (List.replicate (j + 1) (0 : Int))).toArray 3)
      refine wpAnyH_take (i := 6) (oi := _) (v := ?_) rfl (by kernel_rfl) (by kernel_rfl) (by kernel_rfl) (fun _ _ _ h => h) (Or.inl ⟨by rfl, ?_⟩) (by assumption) ?_
      (rotate_left); (focus (intro wv hSw; (obtain ⟨qP, qO, qB⟩ := hSw); obtain ⟨u0_, u1_, _, _, _⟩ := blk2 qP; go_simp; (try with_reducible rfl)))
      try simp only [Act.put, List.getElem_toArray, List.getElem_cons_succ, List.getElem_cons_zero, List.setIfInBounds_toArray, List.set_cons_zero, List.set_cons_succ]
      refine wpAnyH_ready (rs := [7]) (by kernel_rfl) (by simp) ?_
      refine AllReadyH.cons (o := _) rfl (fun K hK => ?_) AllReadyH.nil
      go_simp
      (go_at_call 13; refine (iCv_is d _ (j + 1) (List.replicate (j + 1) 0) _ HZL.out hZb.row (by omega) HZV.out).mono ?_; rintro e x0kc ⟨rfl, hw_0kc⟩)
      refine hK.out _ _ ⟨blk_next hP_0k hw_0kc, hO_0k.next hw_0kc, bel_next hB_0k hw_0kc⟩ (fun hHeld => ?_)
      clear hK K
      try simp only [Act.put, List.getElem_toArray, List.getElem_cons_succ, List.getElem_cons_zero, List.setIfInBounds_toArray, List.set_cons_zero, List.set_cons_succ]
      obtain ⟨hP_0kc, hO_0kc, hB_0kc⟩ := id hHeld
      refine wpAnyH_take (i := 8) (oi := _) (v := ?_) rfl (by kernel_rfl) (by kernel_rfl) (by kernel_rfl) (fun _ _ _ h => h) (Or.inl ⟨by rfl, ?_⟩) (by assumption) ?_
      (rotate_left); (focus (intro wv hSw; (obtain ⟨qP, qO, qB⟩ := hSw); obtain ⟨u0_, u1_, _, _, _⟩ := blk2 qP; go_simp; (try with_reducible rfl)))
      try simp only [Act.put, List.getElem_toArray, List.getElem_cons_succ, List.getElem_cons_zero, List.setIfInBounds_toArray, List.set_cons_zero, List.set_cons_succ]
      refine wpAnyH_take (i := 9) (oi := _) (v := ?_) rfl (by kernel_rfl) (by kernel_rfl) (by kernel_rfl) (fun _ _ _ h => h) (Or.inl ⟨by rfl, ?_⟩) (by assumption) ?_
      (rotate_left); (focus (intro wv hSw; (obtain ⟨qP, qO, qB⟩ := hSw); obtain ⟨u0_, u1_, _, _, _⟩ := blk2 qP; go_simp; (try with_reducible rfl)))
      try simp only [Act.put, List.getElem_toArray, List.getElem_cons_succ, List.getElem_cons_zero, List.setIfInBounds_toArray, List.set_cons_zero, List.set_cons_succ]
      refine wpAnyH_take (i := 10) (oi := _) (v := ?_) rfl (by kernel_rfl) (by kernel_rfl) (by kernel_rfl) (fun _ _ _ h => h) (Or.inl ⟨by rfl, ?_⟩) (by assumption) ?_
      (rotate_left); (focus (intro wv hSw; (obtain ⟨qP, qO, qB⟩ := hSw); obtain ⟨u0_, u1_, _, _, _⟩ := blk2 qP; go_simp; (try with_reducible rfl)))
      try simp only [Act.put, List.getElem_toArray, List.getElem_cons_succ, List.getElem_cons_zero, List.setIfInBounds_toArray, List.set_cons_zero, List.set_cons_succ]
      refine wpAnyH_take (i := 11) (oi := _) (v := ?_) rfl (by kernel_rfl) (by kernel_rfl) (by kernel_rfl) (fun _ _ _ h => h) (Or.inl ⟨by rfl, ?_⟩) (by assumption) ?_
      (rotate_left); (focus (intro wv hSw; (obtain ⟨qP, qO, qB⟩ := hSw); obtain ⟨u0_, u1_, _, _, _⟩ := blk2 qP; go_simp; (try with_reducible rfl)))
      try simp only [Act.put, List.getElem_toArray, List.getElem_cons_succ, List.getElem_cons_zero, List.setIfInBounds_toArray, List.set_cons_zero, List.set_cons_succ]
      refine wpAnyH_take (i := 12) (oi := _) (v := ?_) rfl (by kernel_rfl) (by kernel_rfl) (by kernel_rfl) (fun _ _ _ h => h) (Or.inl ⟨by rfl, ?_⟩) (by assumption) ?_
      (rotate_left); (focus (intro wv hSw; (obtain ⟨qP, qO, qB⟩ := hSw); obtain ⟨u0_, u1_, _, _, _⟩ := blk2 qP; go_simp; (try with_reducible rfl)))
      try simp only [Act.put, List.getElem_toArray, List.getElem_cons_succ, List.getElem_cons_zero, List.setIfInBounds_toArray, List.set_cons_zero, List.set_cons_succ]
      refine wpAnyH_take (i := 13) (oi := _) (v := ?_) rfl (by kernel_rfl) (by kernel_rfl) (by kernel_rfl) (fun _ _ _ h => h) (Or.inl ⟨by rfl, ?_⟩) (by assumption) ?_
      (rotate_left); (focus (intro wv hSw; (obtain ⟨qP, qO, qB⟩ := hSw); obtain ⟨u0_, u1_, _, _, _⟩ := blk2 qP; go_simp; (try with_reducible rfl)))
      try simp only [Act.put, List.getElem_toArray, List.getElem_cons_succ, List.getElem_cons_zero, List.setIfInBounds_toArray, List.set_cons_zero, List.set_cons_succ]
      refine wpAnyH_take (i := 14) (oi := _) (v := ?_) rfl (by kernel_rfl) (by kernel_rfl) (by kernel_rfl) (fun _ _ _ h => h) (Or.inl ⟨by rfl, ?_⟩) (by assumption) ?_
      (rotate_left); (focus (intro wv hSw; (obtain ⟨qP, qO, qB⟩ := hSw); obtain ⟨u0_, u1_, _, _, _⟩ := blk2 qP; go_simp; (try with_reducible rfl)))
      try simp only [Act.put, List.getElem_toArray, List.getElem_cons_succ, List.getElem_cons_zero, List.setIfInBounds_toArray, List.set_cons_zero, List.set_cons_succ]
      refine wpAnyH_take (i := 15) (oi := _) (v := ?_) rfl (by kernel_rfl) (by kernel_rfl) (by kernel_rfl) (fun _ _ _ h => h) (Or.inl ⟨by rfl, ?_⟩) (by assumption) ?_
      (rotate_left); (focus (intro wv hSw; (obtain ⟨qP, qO, qB⟩ := hSw); obtain ⟨u0_, u1_, _, _, _⟩ := blk2 qP; go_simp; (try with_reducible rfl)))
      try simp only [Act.put, List.getElem_toArray, List.getElem_cons_succ, List.getElem_cons_zero, List.setIfInBounds_toArray, List.set_cons_zero, List.set_cons_succ]
      refine wpAnyH_take (i := 16) (oi := _) (v := ?_) rfl (by kernel_rfl) (by kernel_rfl) (by kernel_rfl) (fun _ _ _ h => h) (Or.inl ⟨by rfl, ?_⟩) (by assumption) ?_
      (rotate_left); (focus (intro wv hSw; (obtain ⟨qP, qO, qB⟩ := hSw); obtain ⟨u0_, u1_, _, _, _⟩ := blk2 qP; go_simp; (try with_reducible rfl)))
      try simp only [Act.put, List.getElem_toArray, List.getElem_cons_succ, List.getElem_cons_zero, List.setIfInBounds_toArray, List.set_cons_zero, List.set_cons_succ]
      refine wpAnyH_take (i := 17) (oi := _) (v := ?_) rfl (by kernel_rfl) (by kernel_rfl) (by kernel_rfl) (fun _ _ _ h => h) (Or.inl ⟨by rfl, ?_⟩) (by assumption) ?_
      (rotate_left); (focus (intro wv hSw; (obtain ⟨qP, qO, qB⟩ := hSw); obtain ⟨u0_, u1_, _, _, _⟩ := blk2 qP; go_simp; (try with_reducible rfl)))
      try simp only [Act.put, List.getElem_toArray, List.getElem_cons_succ, List.getElem_cons_zero, List.setIfInBounds_toArray, List.set_cons_zero, List.set_cons_succ]
      refine wpAnyH_take (i := 18) (oi := _) (v := ?_) rfl (by kernel_rfl) (by kernel_rfl) (by kernel_rfl) (fun _ _ _ h => h) (Or.inl ⟨by rfl, ?_⟩) (by assumption) ?_
      (rotate_left); (focus (intro wv hSw; (obtain ⟨qP, qO, qB⟩ := hSw); obtain ⟨u0_, u1_, _, _, _⟩ := blk2 qP; go_simp; (try with_reducible rfl)))
      try simp only [Act.put, List.getElem_toArray, List.getElem_cons_succ, List.getElem_cons_zero, List.setIfInBounds_toArray, List.set_cons_zero, List.set_cons_succ]
      refine wpAnyH_ready (rs := [19]) (by kernel_rfl) (by simp) ?_
      refine AllReadyH.cons (o := _) rfl (fun K hK => ?_) AllReadyH.nil
      go_simp
      (go_at_call 13; refine (iCv_is d A cp (xs.take j) _ HCL.out (SRow.cutY hO_0kc.row j) (by omega) HCV.out).mono ?_; rintro e x0kcc ⟨rfl, hw_0kcc⟩)
      refine hK.out _ _ ⟨blk_next hP_0kc hw_0kcc, hO_0kc.next hw_0kcc, bel_next hB_0kc hw_0kcc⟩ (fun hHeld => ?_)
      clear hK K
      try simp only [Act.put, List.getElem_toArray, List.getElem_cons_succ, List.getElem_cons_zero, List.setIfInBounds_toArray, List.set_cons_zero, List.set_cons_succ]
      obtain ⟨hP_0kcc, hO_0kcc, hB_0kcc⟩ := id hHeld
      refine wpAnyH_take (i := 20) (oi := _) (v := ?_) rfl (by kernel_rfl) (by kernel_rfl) (by kernel_rfl) (fun _ _ _ h => h) (Or.inl ⟨by rfl, ?_⟩) (by assumption) ?_
      (rotate_left); (focus (intro wv hSw; (obtain ⟨qP, qO, qB⟩ := hSw); obtain ⟨u0_, u1_, _, _, _⟩ := blk2 qP; go_simp; (try with_reducible rfl)))
      try simp only [Act.put, List.getElem_toArray, List.getElem_cons_succ, List.getElem_cons_zero, List.setIfInBounds_toArray, List.set_cons_zero, List.set_cons_succ]
      refine wpAnyH_take (i := 21) (oi := _) (v := ?_) rfl (by kernel_rfl) (by kernel_rfl) (by kernel_rfl) (fun _ _ _ h => h) (Or.inl ⟨by rfl, ?_⟩) (by assumption) ?_
      (rotate_left); (focus (intro wv hSw; (obtain ⟨qP, qO, qB⟩ := hSw); obtain ⟨u0_, u1_, _, _, _⟩ := blk2 qP; go_simp; (try with_reducible rfl)))
      try simp only [Act.put, List.getElem_toArray, List.getElem_cons_succ, List.getElem_cons_zero, List.setIfInBounds_toArray, List.set_cons_zero, List.set_cons_succ]
      refine wpAnyH_take (i := 22) (oi := _) (v := ?_) rfl (by kernel_rfl) (by kernel_rfl) (by kernel_rfl) (fun _ _ _ h => h) (Or.inl ⟨by rfl, ?_⟩) (by assumption) ?_
      (rotate_left); (focus (intro wv hSw; (obtain ⟨qP, qO, qB⟩ := hSw); obtain ⟨u0_, u1_, _, _, _⟩ := blk2 qP; go_simp; (try with_reducible rfl)))
      try simp only [Act.put, List.getElem_toArray, List.getElem_cons_succ, List.getElem_cons_zero, List.setIfInBounds_toArray, List.set_cons_zero, List.set_cons_succ]
      refine wpAnyH_done (by kernel_rfl) ?_ _
      clear hjw hjw2
      go_wp2_with fail
      go_ret
      exact ⟨rfl, hB_0kcc⟩

set_option maxRecDepth 100000 in
theorem lifted (os : Os) (started : os.Started) (H : Type) (enc : TypeId × Value → H) :
    ReturnsInHanded {} Try.checked os 3 .any (Rows.fnCityValidSpec.pre6 enc Try.prog Try.f3 Rows.fnCityValidRow.domain false) (Rows.fnCityValidSpec.post enc Try.prog Try.f3 false true false false) := by
  refine returnsInHanded_of_change (C := Try.checked) own started (by kernel_rfl) Try.func3
    (ChangeSpec.witness6 (enc := enc) (C := Try.checked) false ⟨#[], #[.slice none 0 0], []⟩ 8 (by kernel_rfl) (by kernel_rfl) (by kernel_rfl) (by kernel_rfl)) ?_
  intro W base args ds gs before hval0 hW hcnd _
  have hval : ∀ (j : Nat) t v, Try.f3.params[j]? = some t → args[j]? = some v → Value.okWide Try.prog W .any base t v := hval0
  have hW' := hW
  obtain ⟨p, q, hA0, hV, rfl, hfz, hnd⟩ := hW
  have hA : DataW.TrodAll enc Try.prog W 0 (fun _ => true) true Try.f3.params.toList args.toList ds p := hA0
  rw [Try.params3] at hA hval
  obtain ⟨v0, vs0, d0, ds0, p0, q0, hargs, rfl, rfl, h0, r0⟩ := trodAll_cons hA
  obtain ⟨rfl, rfl, rfl⟩ := trodAll_nil r0
  obtain rfl : args = #[v0] := by cases args; simp_all
  obtain ⟨rfl, rfl⟩ := trodVars_none hV
  have k0 := h0
  have lt0 : ∀ x ∈ p0, x.block < W.heap.size := by obtain ⟨m, hm⟩ := k0; exact DataW.trod_lt m _ _ _ hm
  obtain ⟨a0, len0, cap0, rfl⟩ := okWide_slice Try.underlying22 (hval 0 22 v0 rfl rfl)
  have w0 : CodeOk W a0 len0 cap0 := by
    obtain ⟨fuel, hf⟩ := h0
    rcases open_ints Try.underlying22 Try.underlying5 (by kernel_rfl) hf with ⟨hcs, _⟩ | ⟨x, l, c, zs, hcs, _, hl, hm, hz, _, hcell, hwz⟩
    · simp [Value.cells] at hcs
      obtain ⟨rfl, rfl, rfl⟩ := hcs
      exact code_nil W
    · simp [Value.cells] at hcs
      obtain ⟨rfl, rfl, rfl⟩ := hcs
      exact code_ok hl hm (by simp at hz; omega) hcell hwz
  clear hA0 hval0
  refine (walk W a0 len0 cap0 w0).mono fun e W' ⟨he, bel⟩ => ?_
  subst he
  exact ⟨_, rfl, _, _, _, [], _, [], hW', trodAll_mk1 (shut_bool Try.underlying4 _), (trodAll_cons_mk (Below.trod laidOut (by kernel_rfl) (of_decide_eq_true (by kernel_rfl)) k0 bel lt0) trodAll_mk0), rfl, bel.frame _, fun h => by cases h⟩

theorem over : Rows.fnCityValidRow.holds Try.pinned (OpenSpec.ofChange Rows.fnCityValidSpec) :=
  OpenClaim.holds_of_wide 3 Try.f3 rfl rfl rfl rfl rfl rfl rfl ⟨rfl, rfl, rfl, rfl, rfl⟩ rfl rfl rfl rfl rfl (by kernel_rfl) Try.func3 (by kernel_rfl)
    (of_decide_eq_true (by kernel_rfl)) (by unfold Func.isWrapper; first | (rw [if_pos (by decide +kernel)]; kernel_rfl) | (rw [if_neg (by decide +kernel)]; exact ⟨rfl, rfl⟩))
    (fun os started H enc _ => lifted os started H enc)

/-- The statement. -/
theorem proved : Rows.FnCityValidSaid :=
  over
#print axioms proved
end Go.Proofs.Ytidppabconifkaa.fnCityValid
