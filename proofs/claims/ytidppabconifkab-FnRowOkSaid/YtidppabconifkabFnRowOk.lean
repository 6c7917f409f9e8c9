/- FnRowOk: whatever the input, the law returns true, and its arguments read as they did. No conditions beyond those of the statement's row. -/
import Derived.Test.YtidppabconifkabZ4
import Derived.Test.YtidppabconifkabZr
import Derived.Test.YtidppabconifkabZq
import Derived.Test.YtidppabconifkabKw
import Derived.Test.YtidppabconifkabLp
import Derived.Test.YtidppabconifkabYc
import Derived.Test.YtidppabconifkabYh
namespace Go.Proofs.Ytidppabconifkab.fnRowOk
open Go.Proofs.Ytidppabconifkab
open Go.ChangeShapes Go.WideShapes Go.ChangeAt Go.RowKit Go.Joins
set_option linter.unusedVariables false
set_option linter.unusedSimpArgs false
set_option linter.unnecessarySimpa false

theorem own : ownKnob Try.prog.godebug = none := by kernel_rfl
theorem laidOut : laidOutB Try.prog = true := by kernel_rfl

set_option maxRecDepth 100000 in
set_option maxHeartbeats 4000000 in
theorem walk (w : World) (a0 : Option Addr) (len0 cap0 : Nat) (w0 : CodeOk w a0 len0 cap0) :
    Calls Try.prog 3 #[.slice a0 len0 cap0] w fun e w' => e = .returned (.bool true) ∧ Below w.heap.size w w' := by
  by_cases hl : 1048576 < len0
  · have w0' := w0.2.1
    unfold maxLen at w0'
    clear w0
    go_enter Try.func3, Try.ntmps3
    go_wp2
    go_ret
    exact ⟨rfl, Below.refl _ _⟩
  · have w0' := w0.2.1
    unfold maxLen at w0'
    have hle := w0.1
    have HW := Lib.hid w0
    clear w0
    go_enter Try.func3, Try.ntmps3
    obtain ⟨i0, hi0, hz0, hz1, hz2⟩ := info_parts infoNum
    have HI := Lib.hid (And.intro hi0 (And.intro hz0 (And.intro hz1 hz2)))
    clear hi0 hz0 hz1 hz2
    go_wp2_with fail
    refine (drRowOk_any _ _ _ _ HW.out).mono ?_; rintro e w1 ⟨xs, us, A, C, ca, cc, rfl, hx6, hu6, hub, hO0, hC0, hB0⟩
    obtain ⟨n, hn⟩ : ∃ n, xs.length = n := ⟨_, rfl⟩
    rw [hn] at hx6 ⊢
    have HN := Lib.hid hn
    clear hn
    obtain ⟨m, hm⟩ : ∃ m, us.length = m := ⟨_, rfl⟩
    rw [hm] at hu6 ⊢
    have HM := Lib.hid hm
    clear hm
    obtain ⟨p, hp⟩ : ∃ p, rwB xs = p := ⟨_, rfl⟩
    have HP := Lib.hid hp
    have HRN : Hid (roB xs [] = p) := Lib.hid (by rw [roB_nil7]; exact hp)
    clear hp
    cases hv : roB xs us
    · have HR := Lib.hid hv
      clear hv
      go_wp2_with fail
      refine (iRo_is A C ca cc xs us _ HN.out hO0.row (by omega) HM.out hC0.row (by omega) HR.out).mono ?_; rintro e' w1 ⟨rfl, hw1⟩
      have hO1 := hO0.next hw1
      have hC1 := hC0.next hw1
      have hB1 := bel_next hB0 hw1
      go_wp2_with fail
      refine (sRo_is A C ca cc xs us _ HN.out hO1.row (by omega) HM.out hC1.row (by omega) HR.out).mono ?_; rintro e' w2 ⟨rfl, hw2⟩
      have hO2 := hO1.next hw2
      have hC2 := hC1.next hw2
      have hB2 := bel_next hB1 hw2
      go_wp2_with fail
      refine (iRo_is (m := 0) A none ca 0 xs [] _ HN.out hO2.row (by omega) rfl (.inl rfl) (by omega) HRN.out).mono ?_; rintro e' w3 ⟨rfl, hw3⟩
      have hO3 := hO2.next hw3
      have hC3 := hC2.next hw3
      have hB3 := bel_next hB2 hw3
      go_wp2_with fail
      refine (iRw_is A ca xs _ HN.out hO3.row (by omega) HP.out).mono ?_; rintro e' w4 ⟨rfl, hw4⟩
      have hO4 := hO3.next hw4
      have hC4 := hC3.next hw4
      have hB4 := bel_next hB3 hw4
      go_wp2_with fail
      refine (alive_any _).mono ?_; rintro e' w' ⟨rfl, rfl⟩
      go_wp2
      go_ret
      exact ⟨rfl, hB4⟩
    · by_cases hm0 : m = 0
      · subst hm0
        have HR := Lib.hid hv
        clear hv
        go_wp2_with fail
        refine (iRo_is A C ca cc xs us _ HN.out hO0.row (by omega) HM.out hC0.row (by omega) HR.out).mono ?_; rintro e' w1 ⟨rfl, hw1⟩
        have hO1 := hO0.next hw1
        have hC1 := hC0.next hw1
        have hB1 := bel_next hB0 hw1
        go_wp2_with fail
        refine (sRo_is A C ca cc xs us _ HN.out hO1.row (by omega) HM.out hC1.row (by omega) HR.out).mono ?_; rintro e' w2 ⟨rfl, hw2⟩
        have hO2 := hO1.next hw2
        have hC2 := hC1.next hw2
        have hB2 := bel_next hB1 hw2
        go_wp2_with fail
        refine (iRo_is (m := 0) A none ca 0 xs [] _ HN.out hO2.row (by omega) rfl (.inl rfl) (by omega) HRN.out).mono ?_; rintro e' w3 ⟨rfl, hw3⟩
        have hO3 := hO2.next hw3
        have hC3 := hC2.next hw3
        have hB3 := bel_next hB2 hw3
        go_wp2_with fail
        refine (iRw_is A ca xs _ HN.out hO3.row (by omega) HP.out).mono ?_; rintro e' w4 ⟨rfl, hw4⟩
        have hO4 := hO3.next hw4
        have hC4 := hC3.next hw4
        have hB4 := bel_next hB3 hw4
        go_wp2_with fail
        refine (alive_any _).mono ?_; rintro e' w' ⟨rfl, rfl⟩
        go_wp2
        go_ret
        exact ⟨rfl, hB4⟩
      · obtain ⟨j, hj⟩ : ∃ j, m = j + 1 := ⟨m - 1, by omega⟩
        have hjx : j < us.length := by rw [HM.out]; omega
        obtain ⟨v, hvv⟩ : ∃ v, us[j]'hjx = v := ⟨_, rfl⟩
        have hvr : 0 ≤ v ∧ v ≤ 20 := by rw [← hvv]; exact hub _ (List.getElem_mem hjx)
        obtain ⟨v0, v1⟩ := hvr
        have HV := Lib.hid hvv
        have HJX := Lib.hid hjx
        have HR1 : Hid (roB xs (us.drop 1) = true) := Lib.hid (roB_tail7 hv)
        have HDL : Hid ((us.drop 1).length = m - 1) := Lib.hid (by rw [List.length_drop, HM.out])
        have HR2 : Hid (roB xs (us ++ [v + 1]) = false) := Lib.hid (roB_beside7 (by rw [List.getLast?_eq_getElem?, show us.length - 1 = j by rw [HM.out]; omega, List.getElem?_eq_getElem hjx, hvv]))
        have HDA : Hid ((us ++ [v + 1]).length = m + 1) := Lib.hid (by rw [List.length_append, HM.out]; rfl)
        have HR := Lib.hid hv
        have z0 : ((m : Int) == 0) = false := by rw [beq_eq_false_iff_ne]; omega
        have hm1 : 1 ≤ m := by omega
        have hmi : (1 : Int) ≤ (m : Int) := by omega
        have HMJ : Hid (IntKind.i64.wrap ((m : Int) - 1) = (j : Int)) := Lib.hid (by rw [IntWalk.i64_in _ (by omega)]; omega)
        have hji : (j : Int) < (m : Int) := by omega
        have HVW : Hid (IntKind.i64.wrap (v + 1) = v + 1) := Lib.hid (IntWalk.i64_in _ (by omega))
        clear hv hvv hub hm0 hj
        go_wp2_with fail
        refine (iRo_is A C ca cc xs us _ HN.out hO0.row (by omega) HM.out hC0.row (by omega) HR.out).mono ?_; rintro e' w1 ⟨rfl, hw1⟩
        have hO1 := hO0.next hw1
        have hC1 := hC0.next hw1
        have hB1 := bel_next hB0 hw1
        go_wp2_with fail
        refine (sRo_is A C ca cc xs us _ HN.out hO1.row (by omega) HM.out hC1.row (by omega) HR.out).mono ?_; rintro e' w2 ⟨rfl, hw2⟩
        have hO2 := hO1.next hw2
        have hC2 := hC1.next hw2
        have hB2 := bel_next hB1 hw2
        obtain ⟨g2, rfl, _, _⟩ := hC2.at_ (i := 0) (by rw [HM.out]; omega)
        have hw1 := HMJ.out
        have hw2 := HVW.out
        by_cases hc : cc = 1
        · subst hc
          obtain ⟨hcm, _⟩ := hC2.cap
          rw [HM.out] at hcm
          have hm11 : m = 1 := by omega
          subst hm11
          have hj0 : j = 0 := by omega
          subst hj0
          have hw3 : IntKind.i64.wrap 0 = 0 := by decide
          have HNI : Hid (us.drop 1 = []) := Lib.hid (List.length_eq_zero_iff.1 (by rw [HDL.out]))
          go_wp2_with fail
          refine wp_region_held_drew (S := (fun w' => Below w2.heap.size w2 w')) (by kernel_rfl) ((Below.refl _ _).drew) (fun hHeld => ?_)
          have hB_0 := id hHeld
          refine wpAnyH_take (i := 0) (oi := _) (v := ?_) rfl (by kernel_rfl) (by kernel_rfl) (by kernel_rfl) (fun _ _ _ h => h) (Or.inl ⟨by rfl, ?_⟩) (by assumption) ?_
          (rotate_left); (focus (intro wv hSw; (have qB := hSw); go_simp; (try with_reducible rfl)))
          try simp only [Act.put, List.getElem_toArray, List.getElem_cons_succ, List.getElem_cons_zero, List.setIfInBounds_toArray, List.set_cons_zero, List.set_cons_succ]
          refine wpAnyH_take (i := 1) (oi := _) (v := ?_) rfl (by kernel_rfl) (by kernel_rfl) (by kernel_rfl) (fun _ _ _ h => h) (Or.inl ⟨by rfl, ?_⟩) (by assumption) ?_
          (rotate_left); (focus (intro wv hSw; (have qB := hSw); go_simp; (try with_reducible rfl)))
          try simp only [Act.put, List.getElem_toArray, List.getElem_cons_succ, List.getElem_cons_zero, List.setIfInBounds_toArray, List.set_cons_zero, List.set_cons_succ]
          refine wpAnyH_take (i := 2) (oi := _) (v := ?_) rfl (by kernel_rfl) (by kernel_rfl) (by kernel_rfl) (fun _ _ _ h => h) (Or.inl ⟨by rfl, ?_⟩) (by assumption) ?_
          (rotate_left); (focus (intro wv hSw; (have qB := hSw); go_simp; (try with_reducible rfl)))
          try simp only [Act.put, List.getElem_toArray, List.getElem_cons_succ, List.getElem_cons_zero, List.setIfInBounds_toArray, List.set_cons_zero, List.set_cons_succ]
          refine wpAnyH_ready (rs := [3]) (by kernel_rfl) (by simp) ?_
          refine AllReadyH.cons (o := _) rfl (fun K hK => ?_) (AllReadyH.nil)
          go_simp
          (go_at_call 9; refine (iRo_is A _ ca _ xs (us.drop 1) _ HN.out (hO2.next hB_0).row (by omega) HDL.out (.inl HNI.out) (by omega) HR1.out).mono ?_; rintro e x0c ⟨rfl, hw_0c⟩)
          refine hK.out _ _ (bel_next hB_0 hw_0c) (fun hHeld => ?_)
          clear hK K
          try simp only [Act.put, List.getElem_toArray, List.getElem_cons_succ, List.getElem_cons_zero, List.setIfInBounds_toArray, List.set_cons_zero, List.set_cons_succ]
          have hB_0c := id hHeld
          refine wpAnyH_take (i := 4) (oi := _) (v := ?_) rfl (by kernel_rfl) (by kernel_rfl) (by kernel_rfl) (fun _ _ _ h => h) (Or.inl ⟨by rfl, ?_⟩) (by assumption) ?_
          (rotate_left); (focus (intro wv hSw; (have qB := hSw); go_simp; (try with_reducible rfl)))
          try simp only [Act.put, List.getElem_toArray, List.getElem_cons_succ, List.getElem_cons_zero, List.setIfInBounds_toArray, List.set_cons_zero, List.set_cons_succ]
          refine wpAnyH_take (i := 5) (oi := _) (v := ?_) rfl (by kernel_rfl) (by kernel_rfl) (by kernel_rfl) (fun _ _ _ h => h) (Or.inl ⟨by rfl, ?_⟩) (by assumption) ?_
          (rotate_left); (focus (intro wv hSw; (have qB := hSw); go_simp; (try with_reducible rfl)))
          try simp only [Act.put, List.getElem_toArray, List.getElem_cons_succ, List.getElem_cons_zero, List.setIfInBounds_toArray, List.set_cons_zero, List.set_cons_succ]
          refine wpAnyH_take (i := 7) (oi := _) (v := ?_) rfl (by kernel_rfl) (by kernel_rfl) (by kernel_rfl) (fun _ _ _ h => h) (Or.inl ⟨by rfl, ?_⟩) (by assumption) ?_
          (rotate_left); (focus (intro wv hSw; (have qB := hSw); go_simp; (try with_reducible rfl)))
          try simp only [Act.put, List.getElem_toArray, List.getElem_cons_succ, List.getElem_cons_zero, List.setIfInBounds_toArray, List.set_cons_zero, List.set_cons_succ]
          refine wpAnyH_take (i := 9) (oi := _) (v := ?_) rfl (by kernel_rfl) (by kernel_rfl) (by kernel_rfl) (fun _ _ _ h => h) (Or.inl ⟨by rfl, ?_⟩) (by assumption) ?_
          (rotate_left); (focus (intro wv hSw; (have qB := hSw); go_simp; (try with_reducible rfl)))
          try simp only [Act.put, List.getElem_toArray, List.getElem_cons_succ, List.getElem_cons_zero, List.setIfInBounds_toArray, List.set_cons_zero, List.set_cons_succ]
          refine wpAnyH_take (i := 10) (oi := _) (v := ?_) rfl (by kernel_rfl) (by kernel_rfl) (by kernel_rfl) (fun _ _ _ h => h) (Or.inl ⟨by rfl, ?_⟩) (by assumption) ?_
          (rotate_left); (focus (intro wv hSw; (have qB := hSw); go_simp; (try with_reducible rfl)))
          try simp only [Act.put, List.getElem_toArray, List.getElem_cons_succ, List.getElem_cons_zero, List.setIfInBounds_toArray, List.set_cons_zero, List.set_cons_succ]
          refine wpAnyH_take (i := 11) (oi := _) (v := ?_) rfl (by kernel_rfl) (by kernel_rfl) (by kernel_rfl) (fun _ _ _ h => h) (Or.inl ⟨by rfl, ?_⟩) (by assumption) ?_
          (rotate_left); (focus (intro wv hSw; (have qB := hSw); go_simp; (try with_reducible rfl)))
          try simp only [Act.put, List.getElem_toArray, List.getElem_cons_succ, List.getElem_cons_zero, List.setIfInBounds_toArray, List.set_cons_zero, List.set_cons_succ]
          refine wpAnyH_take (i := 12) (oi := _) (v := ?_) rfl (by kernel_rfl) (by kernel_rfl) (by kernel_rfl) (fun _ _ _ h => h) (Or.inl ⟨by rfl, ?_⟩) (by assumption) ?_
          (rotate_left); (focus (intro wv hSw; (have qB := hSw); go_simp; (try with_reducible rfl)))
          try simp only [Act.put, List.getElem_toArray, List.getElem_cons_succ, List.getElem_cons_zero, List.setIfInBounds_toArray, List.set_cons_zero, List.set_cons_succ]
          refine wpAnyH_take (i := 13) (oi := _) (v := ?_) rfl (by kernel_rfl) (by kernel_rfl) (by kernel_rfl) (fun _ _ _ h => h) (Or.inl ⟨by rfl, ?_⟩) (by assumption) ?_
          (rotate_left); (focus (intro wv hSw; (have qB := hSw); have cC := ownNum (hC2.next qB) HJX.out; rw [HV.out] at cC; go_simp; (try with_reducible rfl)))
          try simp only [Act.put, List.getElem_toArray, List.getElem_cons_succ, List.getElem_cons_zero, List.setIfInBounds_toArray, List.set_cons_zero, List.set_cons_succ]
          refine wpAnyH_take (i := 14) (oi := _) (v := ?_) rfl (by kernel_rfl) (by kernel_rfl) (by kernel_rfl) (fun _ _ _ h => h) (Or.inl ⟨by rfl, ?_⟩) (by assumption) ?_
          (rotate_left); (focus (intro wv hSw; (have qB := hSw); have cC := ownNum (hC2.next qB) HJX.out; rw [HV.out] at cC; go_simp; (try with_reducible rfl)))
          try simp only [Act.put, List.getElem_toArray, List.getElem_cons_succ, List.getElem_cons_zero, List.setIfInBounds_toArray, List.set_cons_zero, List.set_cons_succ]
          refine wpAnyH_take (i := 15) (oi := _) (v := ?_) rfl (by kernel_rfl) (by kernel_rfl) (by kernel_rfl) (fun _ _ _ h => h) (Or.inl ⟨by rfl, ?_⟩) (by assumption) ?_
          (rotate_left); (focus (intro wv hSw; (have qB := hSw); go_simp; (try with_reducible rfl)))
          try simp only [Act.put, List.getElem_toArray, List.getElem_cons_succ, List.getElem_cons_zero, List.setIfInBounds_toArray, List.set_cons_zero, List.set_cons_succ]
          refine wpAnyH_ready (rs := [6, 16]) (by kernel_rfl) (by simp) ?_
          refine AllReadyH.cons (o := _) rfl (fun K hK => ?_) (AllReadyH.cons (o := _) rfl (fun K hK => ?_) (AllReadyH.nil))
          · go_simp
            refine hK.out _ _ (hB_0c.alloc (by have := hB_0c.size; simp at this ⊢; omega) _) (fun hHeld => ?_)
            clear hK K
            try simp only [Act.put, List.getElem_toArray, List.getElem_cons_succ, List.getElem_cons_zero, List.setIfInBounds_toArray, List.set_cons_zero, List.set_cons_succ]
            have hB_0cb := id hHeld
            have hE_0cb : SOwn encNum (x0c.alloc (.cells #[] 3)) w2.heap.size 3 (some ⟨x0c.heap.size, 0, none⟩) 0 [] := SOwn.empty (E := encNum) (by have := blk_new x0c (.cells #[] 3); simpa using this) (by have := hB_0c.size; simp at this ⊢; omega)
            refine wpAnyH_ready (rs := [8, 16]) (by kernel_rfl) (by simp) ?_
            refine AllReadyH.cons (o := _) rfl (fun K hK => ?_) (AllReadyH.cons (o := _) rfl (fun K hK => ?_) (AllReadyH.nil))
            · have hsrc := SRow.newsY (hC2.next hB_0cb).row
              rw [if_pos (by kernel_rfl)]
              refine wp_append_lies _ (.tmp 43) (.tmp 44) _ rfl w2.heap.size 3 i0 _ 1 8 Try.underlying23 HI.out.1 HI.out.2.1 HI.out.2.2.1 HI.out.2.2.2 rfl (by omega) (.slice (some ⟨x0c.heap.size, 0, none⟩) 0 0) 0 [] rfl hE_0cb ⟨g2, 0, none⟩ 1 1 (encNum.flat us) rfl (by rw [encNum.flat_len, HM.out]; rfl) hsrc (encNum.flat_one _) (by omega) (by simp only [maxLen]; omega) (by omega) (by have := hB_0cb.size; simp at this ⊢; omega) _ rfl ?_; intro g cg w9 hown9 hgr9 hat9 hlt9
              have hn9 : 0 + 1 = 1 := by omega
              rw [hn9] at hown9 ⊢
              have hS_0cbp : SOwn encNum w9 w2.heap.size 3 (some ⟨g, 0, none⟩) cg us := SOwn.of_raw hown9 (by simp) HM.out
              have hB9 := SOwn.below_grown (w0 := w2) hE_0cb hB_0cb hgr9
              clear hown9 hgr9 hat9 hsrc
              refine hK.out _ _ (hB9) (fun hHeld => ?_)
              clear hK K
              try simp only [Act.put, List.getElem_toArray, List.getElem_cons_succ, List.getElem_cons_zero, List.setIfInBounds_toArray, List.set_cons_zero, List.set_cons_succ]
              have hB_0cbp := id hHeld
              clear hB9
              refine wpAnyH_ready (rs := [16]) (by kernel_rfl) (by simp) ?_
              refine AllReadyH.cons (o := _) rfl (fun K hK => ?_) (AllReadyH.nil)
              go_simp
              refine hK.out _ _ (hB_0cbp.alloc (by have := hB_0cbp.size; simp at this ⊢; omega) _) (fun hHeld => ?_)
              clear hK K
              try simp only [Act.put, List.getElem_toArray, List.getElem_cons_succ, List.getElem_cons_zero, List.setIfInBounds_toArray, List.set_cons_zero, List.set_cons_succ]
              have hB_0cbpl := id hHeld
              have hL_0cbpl : (w9.alloc (.cells #[.int .i64 (v + 1)] 3)).heap[w9.heap.size]? = some (.cells #[.int .i64 (v + 1)] 3) := by have := blk_new w9 (.cells #[.int .i64 (v + 1)] 3); simpa using this
              have hS_0cbpl := hS_0cbp.alloc (.cells #[.int .i64 (v + 1)] 3)
              refine wpAnyH_ready (rs := [17]) (by kernel_rfl) (by simp) ?_
              refine AllReadyH.cons (o := _) rfl (fun K hK => ?_) (AllReadyH.nil)
              have hsrc5 := SRow.newsY (SBlk.row (show SBlk encNum _ (w9.heap.size) 3 [v + 1] from hL_0cbpl))
              rw [if_pos (by kernel_rfl)]
              refine wp_append_lies _ (.tmp 45) (.tmp 53) _ rfl w2.heap.size 3 i0 _ 1 8 Try.underlying23 HI.out.1 HI.out.2.1 HI.out.2.2.1 HI.out.2.2.2 rfl (by omega) (.slice (some ⟨g, 0, none⟩) 1 cg) 1 (encNum.flat us) rfl (by have z9 := hS_0cbpl; unfold SOwn at z9; rw [HM.out] at z9; exact z9) ⟨w9.heap.size, 0, none⟩ 1 1 (encNum.flat [v + 1]) rfl rfl hsrc5 (encNum.flat_one _) (by omega) (by simp only [maxLen]; omega) (by omega) (by have := hB_0cbpl.size; simp at this ⊢; omega) _ rfl ?_; intro g5 cap5 w5 hown5 hgr5 hat5 hlt5
              have hT5 : SOwn encNum w5 w2.heap.size 3 (some ⟨g5, 0, none⟩) cap5 (us ++ [v + 1]) := SOwn.of_raw hown5 (by simp [Enc.flat]) HDA.out
              have hB5 := SOwn.below_grown (w0 := w2) (n := 1) hS_0cbpl hB_0cbpl hgr5
              clear hown5 hgr5 hat5 hsrc5
              refine hK.out _ _ (hB5) (fun hHeld => ?_)
              clear hK K
              try simp only [Act.put, List.getElem_toArray, List.getElem_cons_succ, List.getElem_cons_zero, List.setIfInBounds_toArray, List.set_cons_zero, List.set_cons_succ]
              have hB_z := id hHeld
              clear hB5
              refine wpAnyH_ready (rs := [18]) (by kernel_rfl) (by simp) ?_
              refine AllReadyH.cons (o := _) rfl (fun K hK => ?_) (AllReadyH.nil)
              go_simp
              (go_at_call 9; refine (iRo_is A (some ⟨g5, 0, none⟩) ca cap5 xs (us ++ [v + 1]) _ HN.out (hO2.next hB_z).row (by omega) HDA.out hT5.row (by omega) HR2.out).mono ?_; rintro e xz ⟨rfl, hw_z⟩)
              refine hK.out _ _ (bel_next hB_z hw_z) (fun hHeld => ?_)
              clear hK K
              try simp only [Act.put, List.getElem_toArray, List.getElem_cons_succ, List.getElem_cons_zero, List.setIfInBounds_toArray, List.set_cons_zero, List.set_cons_succ]
              have hB_zz := id hHeld
              refine wpAnyH_take (i := 19) (oi := _) (v := ?_) rfl (by kernel_rfl) (by kernel_rfl) (by kernel_rfl) (fun _ _ _ h => h) (Or.inl ⟨by rfl, ?_⟩) (by assumption) ?_
              (rotate_left); (focus (intro wv hSw; (have qB := hSw); go_simp; (try with_reducible rfl)))
              try simp only [Act.put, List.getElem_toArray, List.getElem_cons_succ, List.getElem_cons_zero, List.setIfInBounds_toArray, List.set_cons_zero, List.set_cons_succ]
              refine wpAnyH_take (i := 20) (oi := _) (v := ?_) rfl (by kernel_rfl) (by kernel_rfl) (by kernel_rfl) (fun _ _ _ h => h) (Or.inl ⟨by rfl, ?_⟩) (by assumption) ?_
              (rotate_left); (focus (intro wv hSw; (have qB := hSw); go_simp; (try with_reducible rfl)))
              try simp only [Act.put, List.getElem_toArray, List.getElem_cons_succ, List.getElem_cons_zero, List.setIfInBounds_toArray, List.set_cons_zero, List.set_cons_succ]
              refine wpAnyH_take (i := 21) (oi := _) (v := ?_) rfl (by kernel_rfl) (by kernel_rfl) (by kernel_rfl) (fun _ _ _ h => h) (Or.inl ⟨by rfl, ?_⟩) (by assumption) ?_
              (rotate_left); (focus (intro wv hSw; (have qB := hSw); go_simp; (try with_reducible rfl)))
              try simp only [Act.put, List.getElem_toArray, List.getElem_cons_succ, List.getElem_cons_zero, List.setIfInBounds_toArray, List.set_cons_zero, List.set_cons_succ]
              refine wpAnyH_done (by kernel_rfl) ?_ _
              clear hw1 hw2
              go_wp2_with fail
              go_ret
              exact ⟨rfl, bel_next hB2 hB_zz⟩
            · go_simp
              refine hK.out _ _ (hB_0cb.alloc (by have := hB_0cb.size; simp at this ⊢; omega) _) (fun hHeld => ?_)
              clear hK K
              try simp only [Act.put, List.getElem_toArray, List.getElem_cons_succ, List.getElem_cons_zero, List.setIfInBounds_toArray, List.set_cons_zero, List.set_cons_succ]
              have hB_0cbl := id hHeld
              have hL_0cbl : ((x0c.alloc (.cells #[] 3)).alloc (.cells #[.int .i64 (v + 1)] 3)).heap[x0c.heap.size + 1]? = some (.cells #[.int .i64 (v + 1)] 3) := by have := blk_new (x0c.alloc (.cells #[] 3)) (.cells #[.int .i64 (v + 1)] 3); simpa using this
              have hE_0cbl := hE_0cb.alloc (.cells #[.int .i64 (v + 1)] 3)
              have hCG : x0c.heap.size + 1 ≠ x0c.heap.size := by omega
              refine wpAnyH_ready (rs := [8]) (by kernel_rfl) (by simp) ?_
              refine AllReadyH.cons (o := _) rfl (fun K hK => ?_) (AllReadyH.nil)
              have hsrc := SRow.newsY (hC2.next hB_0cbl).row
              rw [if_pos (by kernel_rfl)]
              refine wp_append_lies _ (.tmp 43) (.tmp 44) _ rfl w2.heap.size 3 i0 _ 1 8 Try.underlying23 HI.out.1 HI.out.2.1 HI.out.2.2.1 HI.out.2.2.2 rfl (by omega) (.slice (some ⟨x0c.heap.size, 0, none⟩) 0 0) 0 [] rfl hE_0cbl ⟨g2, 0, none⟩ 1 1 (encNum.flat us) rfl (by rw [encNum.flat_len, HM.out]; rfl) hsrc (encNum.flat_one _) (by omega) (by simp only [maxLen]; omega) (by omega) (by have := hB_0cbl.size; simp at this ⊢; omega) _ rfl ?_; intro g cg w9 hown9 hgr9 hat9 hlt9
              have hn9 : 0 + 1 = 1 := by omega
              rw [hn9] at hown9 ⊢
              have hS_0cblp : SOwn encNum w9 w2.heap.size 3 (some ⟨g, 0, none⟩) cg us := SOwn.of_raw hown9 (by simp) HM.out
              have hB9 := SOwn.below_grown (w0 := w2) hE_0cbl hB_0cbl hgr9
              have hL_0cblp := (hgr9.block _ (blk_lt hL_0cbl) (by simp [Value.ownBlock] <;> omega)).trans hL_0cbl
              clear hown9 hgr9 hat9 hsrc
              refine hK.out _ _ (hB9) (fun hHeld => ?_)
              clear hK K
              try simp only [Act.put, List.getElem_toArray, List.getElem_cons_succ, List.getElem_cons_zero, List.setIfInBounds_toArray, List.set_cons_zero, List.set_cons_succ]
              have hB_0cblp := id hHeld
              clear hB9
              refine wpAnyH_ready (rs := [17]) (by kernel_rfl) (by simp) ?_
              refine AllReadyH.cons (o := _) rfl (fun K hK => ?_) (AllReadyH.nil)
              have hsrc5 := SRow.newsY (SBlk.row (show SBlk encNum _ (x0c.heap.size + 1) 3 [v + 1] from hL_0cblp))
              rw [if_pos (by kernel_rfl)]
              refine wp_append_lies _ (.tmp 45) (.tmp 53) _ rfl w2.heap.size 3 i0 _ 1 8 Try.underlying23 HI.out.1 HI.out.2.1 HI.out.2.2.1 HI.out.2.2.2 rfl (by omega) (.slice (some ⟨g, 0, none⟩) 1 cg) 1 (encNum.flat us) rfl (by have z9 := hS_0cblp; unfold SOwn at z9; rw [HM.out] at z9; exact z9) ⟨x0c.heap.size + 1, 0, none⟩ 1 1 (encNum.flat [v + 1]) rfl rfl hsrc5 (encNum.flat_one _) (by omega) (by simp only [maxLen]; omega) (by omega) (by have := hB_0cblp.size; simp at this ⊢; omega) _ rfl ?_; intro g5 cap5 w5 hown5 hgr5 hat5 hlt5
              have hT5 : SOwn encNum w5 w2.heap.size 3 (some ⟨g5, 0, none⟩) cap5 (us ++ [v + 1]) := SOwn.of_raw hown5 (by simp [Enc.flat]) HDA.out
              have hB5 := SOwn.below_grown (w0 := w2) (n := 1) hS_0cblp hB_0cblp hgr5
              clear hown5 hgr5 hat5 hsrc5
              refine hK.out _ _ (hB5) (fun hHeld => ?_)
              clear hK K
              try simp only [Act.put, List.getElem_toArray, List.getElem_cons_succ, List.getElem_cons_zero, List.setIfInBounds_toArray, List.set_cons_zero, List.set_cons_succ]
              have hB_z := id hHeld
              clear hB5
              refine wpAnyH_ready (rs := [18]) (by kernel_rfl) (by simp) ?_
              refine AllReadyH.cons (o := _) rfl (fun K hK => ?_) (AllReadyH.nil)
              go_simp
              (go_at_call 9; refine (iRo_is A (some ⟨g5, 0, none⟩) ca cap5 xs (us ++ [v + 1]) _ HN.out (hO2.next hB_z).row (by omega) HDA.out hT5.row (by omega) HR2.out).mono ?_; rintro e xz ⟨rfl, hw_z⟩)
              refine hK.out _ _ (bel_next hB_z hw_z) (fun hHeld => ?_)
              clear hK K
              try simp only [Act.put, List.getElem_toArray, List.getElem_cons_succ, List.getElem_cons_zero, List.setIfInBounds_toArray, List.set_cons_zero, List.set_cons_succ]
              have hB_zz := id hHeld
              refine wpAnyH_take (i := 19) (oi := _) (v := ?_) rfl (by kernel_rfl) (by kernel_rfl) (by kernel_rfl) (fun _ _ _ h => h) (Or.inl ⟨by rfl, ?_⟩) (by assumption) ?_
              (rotate_left); (focus (intro wv hSw; (have qB := hSw); go_simp; (try with_reducible rfl)))
              try simp only [Act.put, List.getElem_toArray, List.getElem_cons_succ, List.getElem_cons_zero, List.setIfInBounds_toArray, List.set_cons_zero, List.set_cons_succ]
              refine wpAnyH_take (i := 20) (oi := _) (v := ?_) rfl (by kernel_rfl) (by kernel_rfl) (by kernel_rfl) (fun _ _ _ h => h) (Or.inl ⟨by rfl, ?_⟩) (by assumption) ?_
              (rotate_left); (focus (intro wv hSw; (have qB := hSw); go_simp; (try with_reducible rfl)))
              try simp only [Act.put, List.getElem_toArray, List.getElem_cons_succ, List.getElem_cons_zero, List.setIfInBounds_toArray, List.set_cons_zero, List.set_cons_succ]
              refine wpAnyH_take (i := 21) (oi := _) (v := ?_) rfl (by kernel_rfl) (by kernel_rfl) (by kernel_rfl) (fun _ _ _ h => h) (Or.inl ⟨by rfl, ?_⟩) (by assumption) ?_
              (rotate_left); (focus (intro wv hSw; (have qB := hSw); go_simp; (try with_reducible rfl)))
              try simp only [Act.put, List.getElem_toArray, List.getElem_cons_succ, List.getElem_cons_zero, List.setIfInBounds_toArray, List.set_cons_zero, List.set_cons_succ]
              refine wpAnyH_done (by kernel_rfl) ?_ _
              clear hw1 hw2
              go_wp2_with fail
              go_ret
              exact ⟨rfl, bel_next hB2 hB_zz⟩
          · go_simp
            refine hK.out _ _ (hB_0c.alloc (by have := hB_0c.size; simp at this ⊢; omega) _) (fun hHeld => ?_)
            clear hK K
            try simp only [Act.put, List.getElem_toArray, List.getElem_cons_succ, List.getElem_cons_zero, List.setIfInBounds_toArray, List.set_cons_zero, List.set_cons_succ]
            have hB_0cl := id hHeld
            have hL_0cl : (x0c.alloc (.cells #[.int .i64 (v + 1)] 3)).heap[x0c.heap.size]? = some (.cells #[.int .i64 (v + 1)] 3) := by have := blk_new x0c (.cells #[.int .i64 (v + 1)] 3); simpa using this
            refine wpAnyH_ready (rs := [6]) (by kernel_rfl) (by simp) ?_
            refine AllReadyH.cons (o := _) rfl (fun K hK => ?_) (AllReadyH.nil)
            go_simp
            refine hK.out _ _ (hB_0cl.alloc (by have := hB_0cl.size; simp at this ⊢; omega) _) (fun hHeld => ?_)
            clear hK K
            try simp only [Act.put, List.getElem_toArray, List.getElem_cons_succ, List.getElem_cons_zero, List.setIfInBounds_toArray, List.set_cons_zero, List.set_cons_succ]
            have hB_0clb := id hHeld
            have hE_0clb : SOwn encNum ((x0c.alloc (.cells #[.int .i64 (v + 1)] 3)).alloc (.cells #[] 3)) w2.heap.size 3 (some ⟨x0c.heap.size + 1, 0, none⟩) 0 [] := SOwn.empty (E := encNum) (by have := blk_new (x0c.alloc (.cells #[.int .i64 (v + 1)] 3)) (.cells #[] 3); simpa using this) (by have := hB_0cl.size; simp at this ⊢; omega)
            have hL_0clb : ((x0c.alloc (.cells #[.int .i64 (v + 1)] 3)).alloc (.cells #[] 3)).heap[x0c.heap.size]? = some (.cells #[.int .i64 (v + 1)] 3) := blk_old hL_0cl _
            have hCG : x0c.heap.size ≠ x0c.heap.size + 1 := by omega
            refine wpAnyH_ready (rs := [8]) (by kernel_rfl) (by simp) ?_
            refine AllReadyH.cons (o := _) rfl (fun K hK => ?_) (AllReadyH.nil)
            have hsrc := SRow.newsY (hC2.next hB_0clb).row
            rw [if_pos (by kernel_rfl)]
            refine wp_append_lies _ (.tmp 43) (.tmp 44) _ rfl w2.heap.size 3 i0 _ 1 8 Try.underlying23 HI.out.1 HI.out.2.1 HI.out.2.2.1 HI.out.2.2.2 rfl (by omega) (.slice (some ⟨x0c.heap.size + 1, 0, none⟩) 0 0) 0 [] rfl hE_0clb ⟨g2, 0, none⟩ 1 1 (encNum.flat us) rfl (by rw [encNum.flat_len, HM.out]; rfl) hsrc (encNum.flat_one _) (by omega) (by simp only [maxLen]; omega) (by omega) (by have := hB_0clb.size; simp at this ⊢; omega) _ rfl ?_; intro g cg w9 hown9 hgr9 hat9 hlt9
            have hn9 : 0 + 1 = 1 := by omega
            rw [hn9] at hown9 ⊢
            have hS_0clbp : SOwn encNum w9 w2.heap.size 3 (some ⟨g, 0, none⟩) cg us := SOwn.of_raw hown9 (by simp) HM.out
            have hB9 := SOwn.below_grown (w0 := w2) hE_0clb hB_0clb hgr9
            have hL_0clbp := (hgr9.block _ (blk_lt hL_0clb) (by simp [Value.ownBlock] <;> omega)).trans hL_0clb
            clear hown9 hgr9 hat9 hsrc
            refine hK.out _ _ (hB9) (fun hHeld => ?_)
            clear hK K
            try simp only [Act.put, List.getElem_toArray, List.getElem_cons_succ, List.getElem_cons_zero, List.setIfInBounds_toArray, List.set_cons_zero, List.set_cons_succ]
            have hB_0clbp := id hHeld
            clear hB9
            refine wpAnyH_ready (rs := [17]) (by kernel_rfl) (by simp) ?_
            refine AllReadyH.cons (o := _) rfl (fun K hK => ?_) (AllReadyH.nil)
            have hsrc5 := SRow.newsY (SBlk.row (show SBlk encNum _ (x0c.heap.size) 3 [v + 1] from hL_0clbp))
            rw [if_pos (by kernel_rfl)]
            refine wp_append_lies _ (.tmp 45) (.tmp 53) _ rfl w2.heap.size 3 i0 _ 1 8 Try.underlying23 HI.out.1 HI.out.2.1 HI.out.2.2.1 HI.out.2.2.2 rfl (by omega) (.slice (some ⟨g, 0, none⟩) 1 cg) 1 (encNum.flat us) rfl (by have z9 := hS_0clbp; unfold SOwn at z9; rw [HM.out] at z9; exact z9) ⟨x0c.heap.size, 0, none⟩ 1 1 (encNum.flat [v + 1]) rfl rfl hsrc5 (encNum.flat_one _) (by omega) (by simp only [maxLen]; omega) (by omega) (by have := hB_0clbp.size; simp at this ⊢; omega) _ rfl ?_; intro g5 cap5 w5 hown5 hgr5 hat5 hlt5
            have hT5 : SOwn encNum w5 w2.heap.size 3 (some ⟨g5, 0, none⟩) cap5 (us ++ [v + 1]) := SOwn.of_raw hown5 (by simp [Enc.flat]) HDA.out
            have hB5 := SOwn.below_grown (w0 := w2) (n := 1) hS_0clbp hB_0clbp hgr5
            clear hown5 hgr5 hat5 hsrc5
            refine hK.out _ _ (hB5) (fun hHeld => ?_)
            clear hK K
            try simp only [Act.put, List.getElem_toArray, List.getElem_cons_succ, List.getElem_cons_zero, List.setIfInBounds_toArray, List.set_cons_zero, List.set_cons_succ]
            have hB_z := id hHeld
            clear hB5
            refine wpAnyH_ready (rs := [18]) (by kernel_rfl) (by simp) ?_
            refine AllReadyH.cons (o := _) rfl (fun K hK => ?_) (AllReadyH.nil)
            go_simp
            (go_at_call 9; refine (iRo_is A (some ⟨g5, 0, none⟩) ca cap5 xs (us ++ [v + 1]) _ HN.out (hO2.next hB_z).row (by omega) HDA.out hT5.row (by omega) HR2.out).mono ?_; rintro e xz ⟨rfl, hw_z⟩)
            refine hK.out _ _ (bel_next hB_z hw_z) (fun hHeld => ?_)
            clear hK K
            try simp only [Act.put, List.getElem_toArray, List.getElem_cons_succ, List.getElem_cons_zero, List.setIfInBounds_toArray, List.set_cons_zero, List.set_cons_succ]
            have hB_zz := id hHeld
            refine wpAnyH_take (i := 19) (oi := _) (v := ?_) rfl (by kernel_rfl) (by kernel_rfl) (by kernel_rfl) (fun _ _ _ h => h) (Or.inl ⟨by rfl, ?_⟩) (by assumption) ?_
            (rotate_left); (focus (intro wv hSw; (have qB := hSw); go_simp; (try with_reducible rfl)))
            try simp only [Act.put, List.getElem_toArray, List.getElem_cons_succ, List.getElem_cons_zero, List.setIfInBounds_toArray, List.set_cons_zero, List.set_cons_succ]
            refine wpAnyH_take (i := 20) (oi := _) (v := ?_) rfl (by kernel_rfl) (by kernel_rfl) (by kernel_rfl) (fun _ _ _ h => h) (Or.inl ⟨by rfl, ?_⟩) (by assumption) ?_
            (rotate_left); (focus (intro wv hSw; (have qB := hSw); go_simp; (try with_reducible rfl)))
            try simp only [Act.put, List.getElem_toArray, List.getElem_cons_succ, List.getElem_cons_zero, List.setIfInBounds_toArray, List.set_cons_zero, List.set_cons_succ]
            refine wpAnyH_take (i := 21) (oi := _) (v := ?_) rfl (by kernel_rfl) (by kernel_rfl) (by kernel_rfl) (fun _ _ _ h => h) (Or.inl ⟨by rfl, ?_⟩) (by assumption) ?_
            (rotate_left); (focus (intro wv hSw; (have qB := hSw); go_simp; (try with_reducible rfl)))
            try simp only [Act.put, List.getElem_toArray, List.getElem_cons_succ, List.getElem_cons_zero, List.setIfInBounds_toArray, List.set_cons_zero, List.set_cons_succ]
            refine wpAnyH_done (by kernel_rfl) ?_ _
            clear hw1 hw2
            go_wp2_with fail
            go_ret
            exact ⟨rfl, bel_next hB2 hB_zz⟩
        · go_wp2_with fail
          refine wp_region_held_drew (S := (fun w' => Below w2.heap.size w2 w')) (by kernel_rfl) ((Below.refl _ _).drew) (fun hHeld => ?_)
          have hB_0 := id hHeld
          refine wpAnyH_take (i := 0) (oi := _) (v := ?_) rfl (by kernel_rfl) (by kernel_rfl) (by kernel_rfl) (fun _ _ _ h => h) (Or.inl ⟨by rfl, ?_⟩) (by assumption) ?_
          (rotate_left); (focus (intro wv hSw; (have qB := hSw); go_simp; (try with_reducible rfl)))
          try simp only [Act.put, List.getElem_toArray, List.getElem_cons_succ, List.getElem_cons_zero, List.setIfInBounds_toArray, List.set_cons_zero, List.set_cons_succ]
          refine wpAnyH_take (i := 1) (oi := _) (v := ?_) rfl (by kernel_rfl) (by kernel_rfl) (by kernel_rfl) (fun _ _ _ h => h) (Or.inl ⟨by rfl, ?_⟩) (by assumption) ?_
          (rotate_left); (focus (intro wv hSw; (have qB := hSw); go_simp; (try with_reducible rfl)))
          try simp only [Act.put, List.getElem_toArray, List.getElem_cons_succ, List.getElem_cons_zero, List.setIfInBounds_toArray, List.set_cons_zero, List.set_cons_succ]
          refine wpAnyH_take (i := 2) (oi := _) (v := ?_) rfl (by kernel_rfl) (by kernel_rfl) (by kernel_rfl) (fun _ _ _ h => h) (Or.inl ⟨by rfl, ?_⟩) (by assumption) ?_
          (rotate_left); (focus (intro wv hSw; (have qB := hSw); go_simp; (try with_reducible rfl)))
          try simp only [Act.put, List.getElem_toArray, List.getElem_cons_succ, List.getElem_cons_zero, List.setIfInBounds_toArray, List.set_cons_zero, List.set_cons_succ]
          refine wpAnyH_ready (rs := [3]) (by kernel_rfl) (by simp) ?_
          refine AllReadyH.cons (o := _) rfl (fun K hK => ?_) (AllReadyH.nil)
          go_simp
          (go_at_call 9; refine (iRo_is A _ ca _ xs (us.drop 1) _ HN.out (hO2.next hB_0).row (by omega) HDL.out (SOwn.tailW (hC2.next hB_0)) (by omega) HR1.out).mono ?_; rintro e x0c ⟨rfl, hw_0c⟩)
          refine hK.out _ _ (bel_next hB_0 hw_0c) (fun hHeld => ?_)
          clear hK K
          try simp only [Act.put, List.getElem_toArray, List.getElem_cons_succ, List.getElem_cons_zero, List.setIfInBounds_toArray, List.set_cons_zero, List.set_cons_succ]
          have hB_0c := id hHeld
          refine wpAnyH_take (i := 4) (oi := _) (v := ?_) rfl (by kernel_rfl) (by kernel_rfl) (by kernel_rfl) (fun _ _ _ h => h) (Or.inl ⟨by rfl, ?_⟩) (by assumption) ?_
          (rotate_left); (focus (intro wv hSw; (have qB := hSw); go_simp; (try with_reducible rfl)))
          try simp only [Act.put, List.getElem_toArray, List.getElem_cons_succ, List.getElem_cons_zero, List.setIfInBounds_toArray, List.set_cons_zero, List.set_cons_succ]
          refine wpAnyH_take (i := 5) (oi := _) (v := ?_) rfl (by kernel_rfl) (by kernel_rfl) (by kernel_rfl) (fun _ _ _ h => h) (Or.inl ⟨by rfl, ?_⟩) (by assumption) ?_
          (rotate_left); (focus (intro wv hSw; (have qB := hSw); go_simp; (try with_reducible rfl)))
          try simp only [Act.put, List.getElem_toArray, List.getElem_cons_succ, List.getElem_cons_zero, List.setIfInBounds_toArray, List.set_cons_zero, List.set_cons_succ]
          refine wpAnyH_take (i := 7) (oi := _) (v := ?_) rfl (by kernel_rfl) (by kernel_rfl) (by kernel_rfl) (fun _ _ _ h => h) (Or.inl ⟨by rfl, ?_⟩) (by assumption) ?_
          (rotate_left); (focus (intro wv hSw; (have qB := hSw); go_simp; (try with_reducible rfl)))
          try simp only [Act.put, List.getElem_toArray, List.getElem_cons_succ, List.getElem_cons_zero, List.setIfInBounds_toArray, List.set_cons_zero, List.set_cons_succ]
          refine wpAnyH_take (i := 9) (oi := _) (v := ?_) rfl (by kernel_rfl) (by kernel_rfl) (by kernel_rfl) (fun _ _ _ h => h) (Or.inl ⟨by rfl, ?_⟩) (by assumption) ?_
          (rotate_left); (focus (intro wv hSw; (have qB := hSw); go_simp; (try with_reducible rfl)))
          try simp only [Act.put, List.getElem_toArray, List.getElem_cons_succ, List.getElem_cons_zero, List.setIfInBounds_toArray, List.set_cons_zero, List.set_cons_succ]
          refine wpAnyH_take (i := 10) (oi := _) (v := ?_) rfl (by kernel_rfl) (by kernel_rfl) (by kernel_rfl) (fun _ _ _ h => h) (Or.inl ⟨by rfl, ?_⟩) (by assumption) ?_
          (rotate_left); (focus (intro wv hSw; (have qB := hSw); go_simp; (try with_reducible rfl)))
          try simp only [Act.put, List.getElem_toArray, List.getElem_cons_succ, List.getElem_cons_zero, List.setIfInBounds_toArray, List.set_cons_zero, List.set_cons_succ]
          refine wpAnyH_take (i := 11) (oi := _) (v := ?_) rfl (by kernel_rfl) (by kernel_rfl) (by kernel_rfl) (fun _ _ _ h => h) (Or.inl ⟨by rfl, ?_⟩) (by assumption) ?_
          (rotate_left); (focus (intro wv hSw; (have qB := hSw); go_simp; (try with_reducible rfl)))
          try simp only [Act.put, List.getElem_toArray, List.getElem_cons_succ, List.getElem_cons_zero, List.setIfInBounds_toArray, List.set_cons_zero, List.set_cons_succ]
          refine wpAnyH_take (i := 12) (oi := _) (v := ?_) rfl (by kernel_rfl) (by kernel_rfl) (by kernel_rfl) (fun _ _ _ h => h) (Or.inl ⟨by rfl, ?_⟩) (by assumption) ?_
          (rotate_left); (focus (intro wv hSw; (have qB := hSw); go_simp; (try with_reducible rfl)))
          try simp only [Act.put, List.getElem_toArray, List.getElem_cons_succ, List.getElem_cons_zero, List.setIfInBounds_toArray, List.set_cons_zero, List.set_cons_succ]
          refine wpAnyH_take (i := 13) (oi := _) (v := ?_) rfl (by kernel_rfl) (by kernel_rfl) (by kernel_rfl) (fun _ _ _ h => h) (Or.inl ⟨by rfl, ?_⟩) (by assumption) ?_
          (rotate_left); (focus (intro wv hSw; (have qB := hSw); have cC := ownNum (hC2.next qB) HJX.out; rw [HV.out] at cC; go_simp; (try with_reducible rfl)))
          try simp only [Act.put, List.getElem_toArray, List.getElem_cons_succ, List.getElem_cons_zero, List.setIfInBounds_toArray, List.set_cons_zero, List.set_cons_succ]
          refine wpAnyH_take (i := 14) (oi := _) (v := ?_) rfl (by kernel_rfl) (by kernel_rfl) (by kernel_rfl) (fun _ _ _ h => h) (Or.inl ⟨by rfl, ?_⟩) (by assumption) ?_
          (rotate_left); (focus (intro wv hSw; (have qB := hSw); have cC := ownNum (hC2.next qB) HJX.out; rw [HV.out] at cC; go_simp; (try with_reducible rfl)))
          try simp only [Act.put, List.getElem_toArray, List.getElem_cons_succ, List.getElem_cons_zero, List.setIfInBounds_toArray, List.set_cons_zero, List.set_cons_succ]
          refine wpAnyH_take (i := 15) (oi := _) (v := ?_) rfl (by kernel_rfl) (by kernel_rfl) (by kernel_rfl) (fun _ _ _ h => h) (Or.inl ⟨by rfl, ?_⟩) (by assumption) ?_
          (rotate_left); (focus (intro wv hSw; (have qB := hSw); go_simp; (try with_reducible rfl)))
          try simp only [Act.put, List.getElem_toArray, List.getElem_cons_succ, List.getElem_cons_zero, List.setIfInBounds_toArray, List.set_cons_zero, List.set_cons_succ]
          refine wpAnyH_ready (rs := [6, 16]) (by kernel_rfl) (by simp) ?_
          refine AllReadyH.cons (o := _) rfl (fun K hK => ?_) (AllReadyH.cons (o := _) rfl (fun K hK => ?_) (AllReadyH.nil))
          · go_simp
            refine hK.out _ _ (hB_0c.alloc (by have := hB_0c.size; simp at this ⊢; omega) _) (fun hHeld => ?_)
            clear hK K
            try simp only [Act.put, List.getElem_toArray, List.getElem_cons_succ, List.getElem_cons_zero, List.setIfInBounds_toArray, List.set_cons_zero, List.set_cons_succ]
            have hB_0cb := id hHeld
            have hE_0cb : SOwn encNum (x0c.alloc (.cells #[] 3)) w2.heap.size 3 (some ⟨x0c.heap.size, 0, none⟩) 0 [] := SOwn.empty (E := encNum) (by have := blk_new x0c (.cells #[] 3); simpa using this) (by have := hB_0c.size; simp at this ⊢; omega)
            refine wpAnyH_ready (rs := [8, 16]) (by kernel_rfl) (by simp) ?_
            refine AllReadyH.cons (o := _) rfl (fun K hK => ?_) (AllReadyH.cons (o := _) rfl (fun K hK => ?_) (AllReadyH.nil))
            · have hsrc := SRow.newsY (hC2.next hB_0cb).row
              rw [if_pos (by kernel_rfl)]
              refine wp_append_lies _ (.tmp 43) (.tmp 44) _ rfl w2.heap.size 3 i0 _ 1 8 Try.underlying23 HI.out.1 HI.out.2.1 HI.out.2.2.1 HI.out.2.2.2 rfl (by omega) (.slice (some ⟨x0c.heap.size, 0, none⟩) 0 0) 0 [] rfl hE_0cb ⟨g2, 0, none⟩ m cc (encNum.flat us) rfl (by rw [encNum.flat_len, HM.out]; rfl) hsrc (encNum.flat_one _) (by omega) (by simp only [maxLen]; omega) (by omega) (by have := hB_0cb.size; simp at this ⊢; omega) _ rfl ?_; intro g cg w9 hown9 hgr9 hat9 hlt9
              have hn9 : 0 + m = m := by omega
              rw [hn9] at hown9 ⊢
              have hS_0cbp : SOwn encNum w9 w2.heap.size 3 (some ⟨g, 0, none⟩) cg us := SOwn.of_raw hown9 (by simp) HM.out
              have hB9 := SOwn.below_grown (w0 := w2) hE_0cb hB_0cb hgr9
              clear hown9 hgr9 hat9 hsrc
              refine hK.out _ _ (hB9) (fun hHeld => ?_)
              clear hK K
              try simp only [Act.put, List.getElem_toArray, List.getElem_cons_succ, List.getElem_cons_zero, List.setIfInBounds_toArray, List.set_cons_zero, List.set_cons_succ]
              have hB_0cbp := id hHeld
              clear hB9
              refine wpAnyH_ready (rs := [16]) (by kernel_rfl) (by simp) ?_
              refine AllReadyH.cons (o := _) rfl (fun K hK => ?_) (AllReadyH.nil)
              go_simp
              refine hK.out _ _ (hB_0cbp.alloc (by have := hB_0cbp.size; simp at this ⊢; omega) _) (fun hHeld => ?_)
              clear hK K
              try simp only [Act.put, List.getElem_toArray, List.getElem_cons_succ, List.getElem_cons_zero, List.setIfInBounds_toArray, List.set_cons_zero, List.set_cons_succ]
              have hB_0cbpl := id hHeld
              have hL_0cbpl : (w9.alloc (.cells #[.int .i64 (v + 1)] 3)).heap[w9.heap.size]? = some (.cells #[.int .i64 (v + 1)] 3) := by have := blk_new w9 (.cells #[.int .i64 (v + 1)] 3); simpa using this
              have hS_0cbpl := hS_0cbp.alloc (.cells #[.int .i64 (v + 1)] 3)
              refine wpAnyH_ready (rs := [17]) (by kernel_rfl) (by simp) ?_
              refine AllReadyH.cons (o := _) rfl (fun K hK => ?_) (AllReadyH.nil)
              have hsrc5 := SRow.newsY (SBlk.row (show SBlk encNum _ (w9.heap.size) 3 [v + 1] from hL_0cbpl))
              rw [if_pos (by kernel_rfl)]
              refine wp_append_lies _ (.tmp 45) (.tmp 53) _ rfl w2.heap.size 3 i0 _ 1 8 Try.underlying23 HI.out.1 HI.out.2.1 HI.out.2.2.1 HI.out.2.2.2 rfl (by omega) (.slice (some ⟨g, 0, none⟩) m cg) m (encNum.flat us) rfl (by have z9 := hS_0cbpl; unfold SOwn at z9; rw [HM.out] at z9; exact z9) ⟨w9.heap.size, 0, none⟩ 1 1 (encNum.flat [v + 1]) rfl rfl hsrc5 (encNum.flat_one _) (by omega) (by simp only [maxLen]; omega) (by omega) (by have := hB_0cbpl.size; simp at this ⊢; omega) _ rfl ?_; intro g5 cap5 w5 hown5 hgr5 hat5 hlt5
              have hT5 : SOwn encNum w5 w2.heap.size 3 (some ⟨g5, 0, none⟩) cap5 (us ++ [v + 1]) := SOwn.of_raw hown5 (by simp [Enc.flat]) HDA.out
              have hB5 := SOwn.below_grown (w0 := w2) (n := m) hS_0cbpl hB_0cbpl hgr5
              clear hown5 hgr5 hat5 hsrc5
              refine hK.out _ _ (hB5) (fun hHeld => ?_)
              clear hK K
              try simp only [Act.put, List.getElem_toArray, List.getElem_cons_succ, List.getElem_cons_zero, List.setIfInBounds_toArray, List.set_cons_zero, List.set_cons_succ]
              have hB_z := id hHeld
              clear hB5
              refine wpAnyH_ready (rs := [18]) (by kernel_rfl) (by simp) ?_
              refine AllReadyH.cons (o := _) rfl (fun K hK => ?_) (AllReadyH.nil)
              go_simp
              (go_at_call 9; refine (iRo_is A (some ⟨g5, 0, none⟩) ca cap5 xs (us ++ [v + 1]) _ HN.out (hO2.next hB_z).row (by omega) HDA.out hT5.row (by omega) HR2.out).mono ?_; rintro e xz ⟨rfl, hw_z⟩)
              refine hK.out _ _ (bel_next hB_z hw_z) (fun hHeld => ?_)
              clear hK K
              try simp only [Act.put, List.getElem_toArray, List.getElem_cons_succ, List.getElem_cons_zero, List.setIfInBounds_toArray, List.set_cons_zero, List.set_cons_succ]
              have hB_zz := id hHeld
              refine wpAnyH_take (i := 19) (oi := _) (v := ?_) rfl (by kernel_rfl) (by kernel_rfl) (by kernel_rfl) (fun _ _ _ h => h) (Or.inl ⟨by rfl, ?_⟩) (by assumption) ?_
              (rotate_left); (focus (intro wv hSw; (have qB := hSw); go_simp; (try with_reducible rfl)))
              try simp only [Act.put, List.getElem_toArray, List.getElem_cons_succ, List.getElem_cons_zero, List.setIfInBounds_toArray, List.set_cons_zero, List.set_cons_succ]
              refine wpAnyH_take (i := 20) (oi := _) (v := ?_) rfl (by kernel_rfl) (by kernel_rfl) (by kernel_rfl) (fun _ _ _ h => h) (Or.inl ⟨by rfl, ?_⟩) (by assumption) ?_
              (rotate_left); (focus (intro wv hSw; (have qB := hSw); go_simp; (try with_reducible rfl)))
              try simp only [Act.put, List.getElem_toArray, List.getElem_cons_succ, List.getElem_cons_zero, List.setIfInBounds_toArray, List.set_cons_zero, List.set_cons_succ]
              refine wpAnyH_take (i := 21) (oi := _) (v := ?_) rfl (by kernel_rfl) (by kernel_rfl) (by kernel_rfl) (fun _ _ _ h => h) (Or.inl ⟨by rfl, ?_⟩) (by assumption) ?_
              (rotate_left); (focus (intro wv hSw; (have qB := hSw); go_simp; (try with_reducible rfl)))
              try simp only [Act.put, List.getElem_toArray, List.getElem_cons_succ, List.getElem_cons_zero, List.setIfInBounds_toArray, List.set_cons_zero, List.set_cons_succ]
              refine wpAnyH_done (by kernel_rfl) ?_ _
              clear hw1 hw2
              go_wp2_with fail
              go_ret
              exact ⟨rfl, bel_next hB2 hB_zz⟩
            · go_simp
              refine hK.out _ _ (hB_0cb.alloc (by have := hB_0cb.size; simp at this ⊢; omega) _) (fun hHeld => ?_)
              clear hK K
              try simp only [Act.put, List.getElem_toArray, List.getElem_cons_succ, List.getElem_cons_zero, List.setIfInBounds_toArray, List.set_cons_zero, List.set_cons_succ]
              have hB_0cbl := id hHeld
              have hL_0cbl : ((x0c.alloc (.cells #[] 3)).alloc (.cells #[.int .i64 (v + 1)] 3)).heap[x0c.heap.size + 1]? = some (.cells #[.int .i64 (v + 1)] 3) := by have := blk_new (x0c.alloc (.cells #[] 3)) (.cells #[.int .i64 (v + 1)] 3); simpa using this
              have hE_0cbl := hE_0cb.alloc (.cells #[.int .i64 (v + 1)] 3)
              have hCG : x0c.heap.size + 1 ≠ x0c.heap.size := by omega
              refine wpAnyH_ready (rs := [8]) (by kernel_rfl) (by simp) ?_
              refine AllReadyH.cons (o := _) rfl (fun K hK => ?_) (AllReadyH.nil)
              have hsrc := SRow.newsY (hC2.next hB_0cbl).row
              rw [if_pos (by kernel_rfl)]
              refine wp_append_lies _ (.tmp 43) (.tmp 44) _ rfl w2.heap.size 3 i0 _ 1 8 Try.underlying23 HI.out.1 HI.out.2.1 HI.out.2.2.1 HI.out.2.2.2 rfl (by omega) (.slice (some ⟨x0c.heap.size, 0, none⟩) 0 0) 0 [] rfl hE_0cbl ⟨g2, 0, none⟩ m cc (encNum.flat us) rfl (by rw [encNum.flat_len, HM.out]; rfl) hsrc (encNum.flat_one _) (by omega) (by simp only [maxLen]; omega) (by omega) (by have := hB_0cbl.size; simp at this ⊢; omega) _ rfl ?_; intro g cg w9 hown9 hgr9 hat9 hlt9
              have hn9 : 0 + m = m := by omega
              rw [hn9] at hown9 ⊢
              have hS_0cblp : SOwn encNum w9 w2.heap.size 3 (some ⟨g, 0, none⟩) cg us := SOwn.of_raw hown9 (by simp) HM.out
              have hB9 := SOwn.below_grown (w0 := w2) hE_0cbl hB_0cbl hgr9
              have hL_0cblp := (hgr9.block _ (blk_lt hL_0cbl) (by simp [Value.ownBlock] <;> omega)).trans hL_0cbl
              clear hown9 hgr9 hat9 hsrc
              refine hK.out _ _ (hB9) (fun hHeld => ?_)
              clear hK K
              try simp only [Act.put, List.getElem_toArray, List.getElem_cons_succ, List.getElem_cons_zero, List.setIfInBounds_toArray, List.set_cons_zero, List.set_cons_succ]
              have hB_0cblp := id hHeld
              clear hB9
              refine wpAnyH_ready (rs := [17]) (by kernel_rfl) (by simp) ?_
              refine AllReadyH.cons (o := _) rfl (fun K hK => ?_) (AllReadyH.nil)
              have hsrc5 := SRow.newsY (SBlk.row (show SBlk encNum _ (x0c.heap.size + 1) 3 [v + 1] from hL_0cblp))
              rw [if_pos (by kernel_rfl)]
              refine wp_append_lies _ (.tmp 45) (.tmp 53) _ rfl w2.heap.size 3 i0 _ 1 8 Try.underlying23 HI.out.1 HI.out.2.1 HI.out.2.2.1 HI.out.2.2.2 rfl (by omega) (.slice (some ⟨g, 0, none⟩) m cg) m (encNum.flat us) rfl (by have z9 := hS_0cblp; unfold SOwn at z9; rw [HM.out] at z9; exact z9) ⟨x0c.heap.size + 1, 0, none⟩ 1 1 (encNum.flat [v + 1]) rfl rfl hsrc5 (encNum.flat_one _) (by omega) (by simp only [maxLen]; omega) (by omega) (by have := hB_0cblp.size; simp at this ⊢; omega) _ rfl ?_; intro g5 cap5 w5 hown5 hgr5 hat5 hlt5
              have hT5 : SOwn encNum w5 w2.heap.size 3 (some ⟨g5, 0, none⟩) cap5 (us ++ [v + 1]) := SOwn.of_raw hown5 (by simp [Enc.flat]) HDA.out
              have hB5 := SOwn.below_grown (w0 := w2) (n := m) hS_0cblp hB_0cblp hgr5
              clear hown5 hgr5 hat5 hsrc5
              refine hK.out _ _ (hB5) (fun hHeld => ?_)
              clear hK K
              try simp only [Act.put, List.getElem_toArray, List.getElem_cons_succ, List.getElem_cons_zero, List.setIfInBounds_toArray, List.set_cons_zero, List.set_cons_succ]
              have hB_z := id hHeld
              clear hB5
              refine wpAnyH_ready (rs := [18]) (by kernel_rfl) (by simp) ?_
              refine AllReadyH.cons (o := _) rfl (fun K hK => ?_) (AllReadyH.nil)
              go_simp
              (go_at_call 9; refine (iRo_is A (some ⟨g5, 0, none⟩) ca cap5 xs (us ++ [v + 1]) _ HN.out (hO2.next hB_z).row (by omega) HDA.out hT5.row (by omega) HR2.out).mono ?_; rintro e xz ⟨rfl, hw_z⟩)
              refine hK.out _ _ (bel_next hB_z hw_z) (fun hHeld => ?_)
              clear hK K
              try simp only [Act.put, List.getElem_toArray, List.getElem_cons_succ, List.getElem_cons_zero, List.setIfInBounds_toArray, List.set_cons_zero, List.set_cons_succ]
              have hB_zz := id hHeld
              refine wpAnyH_take (i := 19) (oi := _) (v := ?_) rfl (by kernel_rfl) (by kernel_rfl) (by kernel_rfl) (fun _ _ _ h => h) (Or.inl ⟨by rfl, ?_⟩) (by assumption) ?_
              (rotate_left); (focus (intro wv hSw; (have qB := hSw); go_simp; (try with_reducible rfl)))
              try simp only [Act.put, List.getElem_toArray, List.getElem_cons_succ, List.getElem_cons_zero, List.setIfInBounds_toArray, List.set_cons_zero, List.set_cons_succ]
              refine wpAnyH_take (i := 20) (oi := _) (v := ?_) rfl (by kernel_rfl) (by kernel_rfl) (by kernel_rfl) (fun _ _ _ h => h) (Or.inl ⟨by rfl, ?_⟩) (by assumption) ?_
              (rotate_left); (focus (intro wv hSw; (have qB := hSw); go_simp; (try with_reducible rfl)))
              try simp only [Act.put, List.getElem_toArray, List.getElem_cons_succ, List.getElem_cons_zero, List.setIfInBounds_toArray, List.set_cons_zero, List.set_cons_succ]
              refine wpAnyH_take (i := 21) (oi := _) (v := ?_) rfl (by kernel_rfl) (by kernel_rfl) (by kernel_rfl) (fun _ _ _ h => h) (Or.inl ⟨by rfl, ?_⟩) (by assumption) ?_
              (rotate_left); (focus (intro wv hSw; (have qB := hSw); go_simp; (try with_reducible rfl)))
              try simp only [Act.put, List.getElem_toArray, List.getElem_cons_succ, List.getElem_cons_zero, List.setIfInBounds_toArray, List.set_cons_zero, List.set_cons_succ]
              refine wpAnyH_done (by kernel_rfl) ?_ _
              clear hw1 hw2
              go_wp2_with fail
              go_ret
              exact ⟨rfl, bel_next hB2 hB_zz⟩
          · go_simp
            refine hK.out _ _ (hB_0c.alloc (by have := hB_0c.size; simp at this ⊢; omega) _) (fun hHeld => ?_)
            clear hK K
            try simp only [Act.put, List.getElem_toArray, List.getElem_cons_succ, List.getElem_cons_zero, List.setIfInBounds_toArray, List.set_cons_zero, List.set_cons_succ]
            have hB_0cl := id hHeld
            have hL_0cl : (x0c.alloc (.cells #[.int .i64 (v + 1)] 3)).heap[x0c.heap.size]? = some (.cells #[.int .i64 (v + 1)] 3) := by have := blk_new x0c (.cells #[.int .i64 (v + 1)] 3); simpa using this
            refine wpAnyH_ready (rs := [6]) (by kernel_rfl) (by simp) ?_
            refine AllReadyH.cons (o := _) rfl (fun K hK => ?_) (AllReadyH.nil)
            go_simp
            refine hK.out _ _ (hB_0cl.alloc (by have := hB_0cl.size; simp at this ⊢; omega) _) (fun hHeld => ?_)
            clear hK K
            try simp only [Act.put, List.getElem_toArray, List.getElem_cons_succ, List.getElem_cons_zero, List.setIfInBounds_toArray, List.set_cons_zero, List.set_cons_succ]
            have hB_0clb := id hHeld
            have hE_0clb : SOwn encNum ((x0c.alloc (.cells #[.int .i64 (v + 1)] 3)).alloc (.cells #[] 3)) w2.heap.size 3 (some ⟨x0c.heap.size + 1, 0, none⟩) 0 [] := SOwn.empty (E := encNum) (by have := blk_new (x0c.alloc (.cells #[.int .i64 (v + 1)] 3)) (.cells #[] 3); simpa using this) (by have := hB_0cl.size; simp at this ⊢; omega)
            have hL_0clb : ((x0c.alloc (.cells #[.int .i64 (v + 1)] 3)).alloc (.cells #[] 3)).heap[x0c.heap.size]? = some (.cells #[.int .i64 (v + 1)] 3) := blk_old hL_0cl _
            have hCG : x0c.heap.size ≠ x0c.heap.size + 1 := by omega
            refine wpAnyH_ready (rs := [8]) (by kernel_rfl) (by simp) ?_
            refine AllReadyH.cons (o := _) rfl (fun K hK => ?_) (AllReadyH.nil)
            have hsrc := SRow.newsY (hC2.next hB_0clb).row
            rw [if_pos (by kernel_rfl)]
            refine wp_append_lies _ (.tmp 43) (.tmp 44) _ rfl w2.heap.size 3 i0 _ 1 8 Try.underlying23 HI.out.1 HI.out.2.1 HI.out.2.2.1 HI.out.2.2.2 rfl (by omega) (.slice (some ⟨x0c.heap.size + 1, 0, none⟩) 0 0) 0 [] rfl hE_0clb ⟨g2, 0, none⟩ m cc (encNum.flat us) rfl (by rw [encNum.flat_len, HM.out]; rfl) hsrc (encNum.flat_one _) (by omega) (by simp only [maxLen]; omega) (by omega) (by have := hB_0clb.size; simp at this ⊢; omega) _ rfl ?_; intro g cg w9 hown9 hgr9 hat9 hlt9
            have hn9 : 0 + m = m := by omega
            rw [hn9] at hown9 ⊢
            have hS_0clbp : SOwn encNum w9 w2.heap.size 3 (some ⟨g, 0, none⟩) cg us := SOwn.of_raw hown9 (by simp) HM.out
            have hB9 := SOwn.below_grown (w0 := w2) hE_0clb hB_0clb hgr9
            have hL_0clbp := (hgr9.block _ (blk_lt hL_0clb) (by simp [Value.ownBlock] <;> omega)).trans hL_0clb
            clear hown9 hgr9 hat9 hsrc
            refine hK.out _ _ (hB9) (fun hHeld => ?_)
            clear hK K
            try simp only [Act.put, List.getElem_toArray, List.getElem_cons_succ, List.getElem_cons_zero, List.setIfInBounds_toArray, List.set_cons_zero, List.set_cons_succ]
            have hB_0clbp := id hHeld
            clear hB9
            refine wpAnyH_ready (rs := [17]) (by kernel_rfl) (by simp) ?_
            refine AllReadyH.cons (o := _) rfl (fun K hK => ?_) (AllReadyH.nil)
            have hsrc5 := SRow.newsY (SBlk.row (show SBlk encNum _ (x0c.heap.size) 3 [v + 1] from hL_0clbp))
            rw [if_pos (by kernel_rfl)]
            refine wp_append_lies _ (.tmp 45) (.tmp 53) _ rfl w2.heap.size 3 i0 _ 1 8 Try.underlying23 HI.out.1 HI.out.2.1 HI.out.2.2.1 HI.out.2.2.2 rfl (by omega) (.slice (some ⟨g, 0, none⟩) m cg) m (encNum.flat us) rfl (by have z9 := hS_0clbp; unfold SOwn at z9; rw [HM.out] at z9; exact z9) ⟨x0c.heap.size, 0, none⟩ 1 1 (encNum.flat [v + 1]) rfl rfl hsrc5 (encNum.flat_one _) (by omega) (by simp only [maxLen]; omega) (by omega) (by have := hB_0clbp.size; simp at this ⊢; omega) _ rfl ?_; intro g5 cap5 w5 hown5 hgr5 hat5 hlt5
            have hT5 : SOwn encNum w5 w2.heap.size 3 (some ⟨g5, 0, none⟩) cap5 (us ++ [v + 1]) := SOwn.of_raw hown5 (by simp [Enc.flat]) HDA.out
            have hB5 := SOwn.below_grown (w0 := w2) (n := m) hS_0clbp hB_0clbp hgr5
            clear hown5 hgr5 hat5 hsrc5
            refine hK.out _ _ (hB5) (fun hHeld => ?_)
            clear hK K
            try simp only [Act.put, List.getElem_toArray, List.getElem_cons_succ, List.getElem_cons_zero, List.setIfInBounds_toArray, List.set_cons_zero, List.set_cons_succ]
            have hB_z := id hHeld
            clear hB5
            refine wpAnyH_ready (rs := [18]) (by kernel_rfl) (by simp) ?_
            refine AllReadyH.cons (o := _) rfl (fun K hK => ?_) (AllReadyH.nil)
            go_simp
            (go_at_call 9; refine (iRo_is A (some ⟨g5, 0, none⟩) ca cap5 xs (us ++ [v + 1]) _ HN.out (hO2.next hB_z).row (by omega) HDA.out hT5.row (by omega) HR2.out).mono ?_; rintro e xz ⟨rfl, hw_z⟩)
            refine hK.out _ _ (bel_next hB_z hw_z) (fun hHeld => ?_)
            clear hK K
            try simp only [Act.put, List.getElem_toArray, List.getElem_cons_succ, List.getElem_cons_zero, List.setIfInBounds_toArray, List.set_cons_zero, List.set_cons_succ]
            have hB_zz := id hHeld
            refine wpAnyH_take (i := 19) (oi := _) (v := ?_) rfl (by kernel_rfl) (by kernel_rfl) (by kernel_rfl) (fun _ _ _ h => h) (Or.inl ⟨by rfl, ?_⟩) (by assumption) ?_
            (rotate_left); (focus (intro wv hSw; (have qB := hSw); go_simp; (try with_reducible rfl)))
            try simp only [Act.put, List.getElem_toArray, List.getElem_cons_succ, List.getElem_cons_zero, List.setIfInBounds_toArray, List.set_cons_zero, List.set_cons_succ]
            refine wpAnyH_take (i := 20) (oi := _) (v := ?_) rfl (by kernel_rfl) (by kernel_rfl) (by kernel_rfl) (fun _ _ _ h => h) (Or.inl ⟨by rfl, ?_⟩) (by assumption) ?_
            (rotate_left); (focus (intro wv hSw; (have qB := hSw); go_simp; (try with_reducible rfl)))
            try simp only [Act.put, List.getElem_toArray, List.getElem_cons_succ, List.getElem_cons_zero, List.setIfInBounds_toArray, List.set_cons_zero, List.set_cons_succ]
            refine wpAnyH_take (i := 21) (oi := _) (v := ?_) rfl (by kernel_rfl) (by kernel_rfl) (by kernel_rfl) (fun _ _ _ h => h) (Or.inl ⟨by rfl, ?_⟩) (by assumption) ?_
            (rotate_left); (focus (intro wv hSw; (have qB := hSw); go_simp; (try with_reducible rfl)))
            try simp only [Act.put, List.getElem_toArray, List.getElem_cons_succ, List.getElem_cons_zero, List.setIfInBounds_toArray, List.set_cons_zero, List.set_cons_succ]
            refine wpAnyH_done (by kernel_rfl) ?_ _
            clear hw1 hw2
            go_wp2_with fail
            go_ret
            exact ⟨rfl, bel_next hB2 hB_zz⟩

set_option maxRecDepth 100000 in
theorem lifted (os : Os) (started : os.Started) (H : Type) (enc : TypeId × Value → H) :
    ReturnsInHanded {} Try.checked os 3 .any (Rows.fnRowOkSpec.pre6 enc Try.prog Try.f3 Rows.fnRowOkRow.domain false) (Rows.fnRowOkSpec.post enc Try.prog Try.f3 false true false false) := by
  refine returnsInHanded_of_change (C := Try.checked) own started (by kernel_rfl) Try.func3
    (ChangeSpec.witness6 (enc := enc) (C := Try.checked) false ⟨#[], #[.slice none 0 0], []⟩ 8 (by kernel_rfl) (by kernel_rfl) (by kernel_rfl) (by kernel_rfl)) ?_
  intro W base args ds gs before hval0 hW hcnd _
  have hval : ∀ (j : Nat) t v, Try.f3.params[j]? = some t → args[j]? = some v → Value.okWide Try.prog W .any base t v := hval0
  have hW' := hW
  obtain ⟨p, q, hA0, hV, rfl, hfz, hnd⟩ := hW
  have hA : DataW.TrodAll enc Try.prog W 0 (fun _ => true) true Try.f3.params.toList args.toList ds p := hA0
  rw [Try.params3] at hA hval
  obtain ⟨v0, vs0, d0, ds0, p0, q0, hargs, rfl, rfl, h0, r0⟩ := trodAll_cons hA
  obtain ⟨rfl, rfl, rfl⟩ := trodAll_nil r0
  obtain rfl : args = #[v0] := by cases args; simp_all
  obtain ⟨rfl, rfl⟩ := trodVars_none hV
  have k0 := h0
  have lt0 : ∀ x ∈ p0, x.block < W.heap.size := by obtain ⟨m, hm⟩ := k0; exact DataW.trod_lt m _ _ _ hm
  obtain ⟨a0, len0, cap0, rfl⟩ := okWide_slice Try.underlying22 (hval 0 22 v0 rfl rfl)
  have w0 : CodeOk W a0 len0 cap0 := by
    obtain ⟨fuel, hf⟩ := h0
    rcases open_ints Try.underlying22 Try.underlying5 (by kernel_rfl) hf with ⟨hcs, _⟩ | ⟨x, l, c, zs, hcs, _, hl, hm, hz, _, hcell, hwz⟩
    · simp [Value.cells] at hcs
      obtain ⟨rfl, rfl, rfl⟩ := hcs
      exact code_nil W
    · simp [Value.cells] at hcs
      obtain ⟨rfl, rfl, rfl⟩ := hcs
      exact code_ok hl hm (by simp at hz; omega) hcell hwz
  clear hA0 hval0
  refine (walk W a0 len0 cap0 w0).mono fun e W' ⟨he, bel⟩ => ?_
  subst he
  exact ⟨_, rfl, _, _, _, [], _, [], hW', trodAll_mk1 (shut_bool Try.underlying4 _), (trodAll_cons_mk (Below.trod laidOut (by kernel_rfl) (of_decide_eq_true (by kernel_rfl)) k0 bel lt0) trodAll_mk0), rfl, bel.frame _, fun h => by cases h⟩

theorem over : Rows.fnRowOkRow.holds Try.pinned (OpenSpec.ofChange Rows.fnRowOkSpec) :=
  OpenClaim.holds_of_wide 3 Try.f3 rfl rfl rfl rfl rfl rfl rfl ⟨rfl, rfl, rfl, rfl, rfl⟩ rfl rfl rfl rfl rfl (by kernel_rfl) Try.func3 (by kernel_rfl)
    (of_decide_eq_true (by kernel_rfl)) (by unfold Func.isWrapper; first | (rw [if_pos (by decide +kernel)]; kernel_rfl) | (rw [if_neg (by decide +kernel)]; exact ⟨rfl, rfl⟩))
    (fun os started H enc _ => lifted os started H enc)

/-- The statement. -/
theorem proved : Rows.FnRowOkSaid :=
  over
#print axioms proved
end Go.Proofs.Ytidppabconifkab.fnRowOk
