/- Contracts of chapter 7: the best places. -/
import Derived.Test.YtfgaggdiepielaaZt
import Derived.Laws.AppendOwn
namespace Go.Proofs.Ytfgaggdiepielaa
open Go Go.ChangeShapes Go.WideShapes Go.ChangeAt Go.RowKit
set_option linter.unusedSimpArgs false
set_option linter.unusedVariables false

theorem SRow.from7 {w : World} {b off : Nat} {xs : List Int} (h : SRow encNum w (some ⟨b, off, none⟩) xs) (k : Nat) : SRow encNum w (some ⟨b, off + k, none⟩) (xs.drop k) := by
  have := h.drop7 k
  simpa [encNum] using this
theorem drop_end7 {xs : List Int} {n j cap : Nat} (hn : xs.length = n) (hc : n ≤ cap) (e : cap = j) : xs.drop j = [] := List.drop_eq_nil_of_le (by omega)
set_option maxRecDepth 100000 in
set_option maxHeartbeats 4000000 in
theorem iRb_is (A : Option Addr) (cap : Nat) (xs : List Int) {n : Nat} {l : List Int} (w : World) (hn : xs.length = n) (h : SRow encNum w A xs) (hl : n ≤ 2000000) (hcap : n ≤ cap) (hr : rbL xs = l) :
    Calls Try.prog 36 #[.slice A n cap] w fun E w' => NumsRet7 l w E w' := by
  cases hv : rwB xs
  · obtain rfl : l = [] := by rw [← hr]; exact rbL_no hv
    have HV := Lib.hid hv
    clear hv hr
    go_enter Try.func36, Try.ntmps36
    go_wp2_with fail
    refine (iRw_is A cap xs _ hn h hl HV.out).mono ?_; rintro E w1 ⟨rfl, hw1⟩
    go_wp2
    go_ret
    exact ⟨none, 0, rfl, SOwn.nil _ _ _, hw1⟩
  · obtain ⟨i0, hi0, hz0, hz1, hz2⟩ := info_parts infoNum
    have HI := Lib.hid (And.intro hi0 (And.intro hz0 (And.intro hz1 hz2)))
    clear hi0 hz0 hz1 hz2
    have hr2 : rbG xs 0 = l := by rw [← hr]; unfold rbL; rw [if_pos hv]
    have hn10 : n ≤ 10 := by have := (rwB_iff.1 hv).1; omega
    have HV := Lib.hid hv
    have HR := Lib.hid hr2
    have HN := Lib.hid hn
    clear hv hr hr2 hn
    go_enter Try.func36, Try.ntmps36
    go_wp2_with fail
    refine (iRw_is A cap xs _ HN.out h hl HV.out).mono ?_; rintro E w1 ⟨rfl, hB1⟩
    go_wp2_with fail
    go_loopw [3, 4] (fun v i wr => ∃ (k m cv : Nat) (V : Option Addr) (us : List Int), k ≤ n + 1 ∧ m ≤ k ∧ i = .int .i64 k ∧ v = .slice V m cv ∧ Hid (us.length = m) ∧ Hid (us ++ rbG xs k = l) ∧ SOwn encNum wr w.heap.size 3 V cv us ∧ Below w.heap.size w wr) (fun _ i _ => (n + 2 - intOf i).toNat)
    case atStart => exact ⟨0, 0, 0, none, [], by omega, by omega, rfl, rfl, (by show _ = _; rfl), Lib.hid (by rw [List.nil_append]; exact HR.out), SOwn.nil _ _ _, hB1⟩
    case round =>
      obtain ⟨k, m, cv, V, us, k1, mk, rfl, rfl, HM, HG, hO, hB⟩ := hrel
      by_cases hlt : k < n
      · have hk : k < xs.length := by rw [HN.out]; exact hlt
        have hki : (k : Int) < (n : Int) := by omega
        obtain ⟨b, off, rfl, hb, c0⟩ := rowNum (h.next hB) hk
        obtain ⟨j, hj⟩ : ∃ j, min (k + 2) n = j := ⟨_, rfl⟩
        have hjn : j ≤ n := by omega
        have HD : Hid (bk (xs.drop (k + 2)) = bk (xs.drop j)) := Lib.hid (by by_cases e : k + 2 ≤ n; exact (by rw [show j = k + 2 by omega]); exact (by rw [bk_drop_end (by rw [HN.out]; omega), bk_drop_end (by rw [HN.out]; omega)]))
        have HK1 := Lib.hid (rbG_use (xs := xs) (p := k) hk)
        have HK2 := Lib.hid (rbG_skip (xs := xs) (p := k) hk)
        have HL1 : Hid ((xs.drop j).length = n - j) := Lib.hid (by rw [List.length_drop, HN.out])
        have HL2 : Hid ((xs.drop k).length = n - k) := Lib.hid (by rw [List.length_drop, HN.out])
        have HP : Hid (rmI (xs.drop j) = bk (xs.drop j)) := Lib.hid (rmI_yes (rwB_drop HV.out j))
        have HQ : Hid (rmI (xs.drop k) = bk (xs.drop k)) := Lib.hid (rmI_yes (rwB_drop HV.out k))
        obtain ⟨p0, p1⟩ := bk_drop_bd HV.out j
        obtain ⟨q0, q1⟩ := bk_drop_bd HV.out k
        obtain ⟨v0, v1⟩ := rwB_at HV.out hk
        rw [HD.out] at HK1 HK2
        have HDE : Hid (cap = j → xs.drop j = []) := Lib.hid (drop_end7 HN.out hcap)
        clear HD
        have hck : ¬ cap = k := by omega
        generalize bk (xs.drop j) = p at HP HK1 HK2 p0 p1
        generalize bk (xs.drop k) = q at HQ HK1 HK2 q0 q1
        generalize xs[k] = v at c0 v0 v1 HK1 HK2
        have wz1 : IntKind.i64.wrap (v + p) = v + p := IntWalk.i64_in _ (by omega)
        have wz2 : IntKind.i64.wrap ((k : Int) + 2) = (k : Int) + 2 := IntWalk.i64_in _ (by omega)
        have hcp := hB.size
        have hki2 : (k : Int) ≤ (n : Int) := by omega
        have hji : (j : Int) ≤ (n : Int) := by omega
        by_cases hkn : (n : Int) < (k : Int) + 2
        · obtain rfl : j = n := by omega
          have hif9 : (if (j : Int) < (k : Int) + 2 then (j : Int) else (k : Int) + 2) = (j : Int) := if_pos hkn
          have HNIL : Hid (xs.drop j = []) := Lib.hid (List.drop_eq_nil_of_le (by rw [HN.out]; omega))
          clear HL1
          have HL1 : Hid ((xs.drop j).length = 0) := Lib.hid (by rw [HNIL.out]; rfl)
          by_cases hcj : cap = j
          · subst hcj
            have hBr_0 : Below wr.heap.size wr wr.drew := (Below.refl _ wr).drew
            go_wp2_with fail
            refine wp_region_held_drew (S := (fun w' => w'.cell? ⟨b, off + k, none⟩ = some (.int .i64 v) ∧ Below w.heap.size w w')) (by kernel_rfl) ⟨c0, hB.drew⟩ (fun hHeld => ?_)
            obtain ⟨hC_0, hB_0⟩ := id hHeld
            refine wpAnyH_take (i := 0) (oi := _) (v := ?_) rfl (by kernel_rfl) (by kernel_rfl) (by kernel_rfl) (fun _ _ _ h => h) (Or.inl ⟨by rfl, ?_⟩) (by assumption) ?_
            (rotate_left); (focus (intro wv hSw; (obtain ⟨qC, qB⟩ := hSw);  go_simp; (try with_reducible rfl)))
            try simp only [Act.put, List.getElem_toArray, List.getElem_cons_succ, List.getElem_cons_zero, List.setIfInBounds_toArray, List.set_cons_zero, List.set_cons_succ]
            refine wpAnyH_take (i := 1) (oi := _) (v := ?_) rfl (by kernel_rfl) (by kernel_rfl) (by kernel_rfl) (fun _ _ _ h => h) (Or.inl ⟨by rfl, ?_⟩) (by assumption) ?_
            (rotate_left); (focus (intro wv hSw; (obtain ⟨qC, qB⟩ := hSw);  go_simp; (try with_reducible rfl)))
            try simp only [Act.put, List.getElem_toArray, List.getElem_cons_succ, List.getElem_cons_zero, List.setIfInBounds_toArray, List.set_cons_zero, List.set_cons_succ]
            refine wpAnyH_take (i := 2) (oi := _) (v := ?_) rfl (by kernel_rfl) (by kernel_rfl) (by kernel_rfl) (fun _ _ _ h => h) (Or.inl ⟨by rfl, ?_⟩) (by assumption) ?_
            (rotate_left); (focus (intro wv hSw; (obtain ⟨qC, qB⟩ := hSw);  go_simp; (try with_reducible rfl)))
            try simp only [Act.put, List.getElem_toArray, List.getElem_cons_succ, List.getElem_cons_zero, List.setIfInBounds_toArray, List.set_cons_zero, List.set_cons_succ]
            refine wpAnyH_take (i := 3) (oi := _) (v := ?_) rfl (by kernel_rfl) (by kernel_rfl) (by kernel_rfl) (fun _ _ _ h => h) (Or.inl ⟨by rfl, ?_⟩) (by assumption) ?_
            (rotate_left); (focus (intro wv hSw; (obtain ⟨qC, qB⟩ := hSw);  go_simp; (try with_reducible rfl)))
            try simp only [Act.put, List.getElem_toArray, List.getElem_cons_succ, List.getElem_cons_zero, List.setIfInBounds_toArray, List.set_cons_zero, List.set_cons_succ]
            refine wpAnyH_take (i := 4) (oi := _) (v := ?_) rfl (by kernel_rfl) (by kernel_rfl) (by kernel_rfl) (fun _ _ _ h => h) (Or.inl ⟨by rfl, ?_⟩) (by assumption) ?_
            (rotate_left); (focus (intro wv hSw; (obtain ⟨qC, qB⟩ := hSw);  go_simp; (try with_reducible rfl)))
            try simp only [Act.put, List.getElem_toArray, List.getElem_cons_succ, List.getElem_cons_zero, List.setIfInBounds_toArray, List.set_cons_zero, List.set_cons_succ]
            refine wpAnyH_take (i := 7) (oi := _) (v := ?_) rfl (by kernel_rfl) (by kernel_rfl) (by kernel_rfl) (fun _ _ _ h => h) (Or.inl ⟨by rfl, ?_⟩) (by assumption) ?_
            (rotate_left); (focus (intro wv hSw; (obtain ⟨qC, qB⟩ := hSw);  go_simp; (try with_reducible rfl)))
            try simp only [Act.put, List.getElem_toArray, List.getElem_cons_succ, List.getElem_cons_zero, List.setIfInBounds_toArray, List.set_cons_zero, List.set_cons_succ]
            refine wpAnyH_take (i := 8) (oi := _) (v := ?_) rfl (by kernel_rfl) (by kernel_rfl) (by kernel_rfl) (fun _ _ _ h => h) (Or.inl ⟨by rfl, ?_⟩) (by assumption) ?_
            (rotate_left); (focus (intro wv hSw; (obtain ⟨qC, qB⟩ := hSw);  go_simp; (try with_reducible rfl)))
            try simp only [Act.put, List.getElem_toArray, List.getElem_cons_succ, List.getElem_cons_zero, List.setIfInBounds_toArray, List.set_cons_zero, List.set_cons_succ]
            refine wpAnyH_take (i := 9) (oi := _) (v := ?_) rfl (by kernel_rfl) (by kernel_rfl) (by kernel_rfl) (fun _ _ _ h => h) (Or.inl ⟨by rfl, ?_⟩) (by assumption) ?_
            (rotate_left); (focus (intro wv hSw; (obtain ⟨qC, qB⟩ := hSw);  go_simp; (try with_reducible rfl)))
            try simp only [Act.put, List.getElem_toArray, List.getElem_cons_succ, List.getElem_cons_zero, List.setIfInBounds_toArray, List.set_cons_zero, List.set_cons_succ]
            refine wpAnyH_ready (rs := [5]) (by kernel_rfl) (by simp) ?_
            refine AllReadyH.cons (o := _) rfl (fun K hK => ?_) AllReadyH.nil
            go_simp
            (go_at_call 31; refine (iRm_is _ _ (xs.drop cap) _ HL1.out (.inl HNIL.out) (by omega) HP.out).mono ?_; rintro e x0c ⟨rfl, hw_0c⟩)
            refine hK.out _ _ ⟨celS_next hC_0 hw_0c, bel_next hB_0 hw_0c⟩ (fun hHeld => ?_)
            clear hK K
            try simp only [Act.put, List.getElem_toArray, List.getElem_cons_succ, List.getElem_cons_zero, List.setIfInBounds_toArray, List.set_cons_zero, List.set_cons_succ]
            obtain ⟨hC_0c, hB_0c⟩ := id hHeld
            have hBr_0c := bel_next hBr_0 hw_0c
            refine wpAnyH_take (i := 6) (oi := _) (v := ?_) rfl (by kernel_rfl) (by kernel_rfl) (by kernel_rfl) (fun _ _ _ h => h) (Or.inl ⟨by rfl, ?_⟩) (by assumption) ?_
            (rotate_left); (focus (intro wv hSw; (obtain ⟨qC, qB⟩ := hSw);  go_simp; (try with_reducible rfl)))
            try simp only [Act.put, List.getElem_toArray, List.getElem_cons_succ, List.getElem_cons_zero, List.setIfInBounds_toArray, List.set_cons_zero, List.set_cons_succ]
            refine wpAnyH_ready (rs := [10]) (by kernel_rfl) (by simp) ?_
            refine AllReadyH.cons (o := _) rfl (fun K hK => ?_) AllReadyH.nil
            go_simp
            (go_at_call 31; refine (iRm_is _ _ (xs.drop k) _ HL2.out (SRow.from7 (h.next hB_0c) k) (by omega) HQ.out).mono ?_; rintro e x0cc ⟨rfl, hw_0cc⟩)
            refine hK.out _ _ ⟨celS_next hC_0c hw_0cc, bel_next hB_0c hw_0cc⟩ (fun hHeld => ?_)
            clear hK K
            try simp only [Act.put, List.getElem_toArray, List.getElem_cons_succ, List.getElem_cons_zero, List.setIfInBounds_toArray, List.set_cons_zero, List.set_cons_succ]
            obtain ⟨hC_0cc, hB_0cc⟩ := id hHeld
            have hBr_0cc := bel_next hBr_0c hw_0cc
            refine wpAnyH_take (i := 11) (oi := _) (v := ?_) rfl (by kernel_rfl) (by kernel_rfl) (by kernel_rfl) (fun _ _ _ h => h) (Or.inl ⟨by rfl, ?_⟩) (by assumption) ?_
            (rotate_left); (focus (intro wv hSw; (obtain ⟨qC, qB⟩ := hSw);  go_simp; (try with_reducible rfl)))
            try simp only [Act.put, List.getElem_toArray, List.getElem_cons_succ, List.getElem_cons_zero, List.setIfInBounds_toArray, List.set_cons_zero, List.set_cons_succ]
            refine wpAnyH_done (by kernel_rfl) ?_ _
            have hO9 := hO.next hBr_0cc
            have hB9 := hB_0cc
            clear hB_0
            by_cases he : v + p = q
            · have HKU := Lib.hid (HK1.out he)
              have hbe : (v + p == q) = true := by rw [beq_iff_eq]; exact he
              clear HK1 HK2 he
              have hOa := hO9.alloc (.cells (encNum.enc (k : Int)).toArray 3)
              have hcp9 := hB9.size
              go_wp2_with (at_builtin; refine wpList_append_lies _ rfl (.tmp 32) (.tmp 34) _ rfl w.heap.size 3 i0 _ 1 8 Try.underlying38 HI.out.1 HI.out.2.1 HI.out.2.2.1 HI.out.2.2.2 rfl (by omega) (.slice V m cv) m (encNum.flat us) rfl (by unfold SOwn at hOa; rw [HM.out] at hOa; exact hOa) ⟨x0cc.heap.size, 0, none⟩ 1 1 (encNum.enc (k : Int)) rfl rfl (new_enc (E := encNum) x0cc (k : Int) _) (encNum.one _) (by omega) (by simp only [maxLen]; omega) (by omega) (by simp; omega) _ rfl ?_; intro g5 cap5 w5 hown5 hgr5 hat5 hlt5)
              have hB5 := SOwn.below_grown (n := m) hOa (hB9.alloc hB9.size _) hgr5
              have hsn := SOwn.snoc (E := encNum) (xs := us) (x := (k : Int)) (by rw [HM.out]; exact hown5)
              go_wp2_with fail
              go_roundw
              case rel => exact ⟨k + 2, m + 1, cap5, some ⟨g5, 0, none⟩, us ++ [(k : Int)], by omega, by omega, by go_num, rfl, Lib.hid (by rw [List.length_append, HM.out]; rfl), Lib.hid (by rw [← HG.out, HKU.out, List.append_assoc]; rfl), hsn, hB5⟩
              case measure => simp [intOf]; omega
            · have HKU := Lib.hid (HK2.out he)
              have hbe : (v + p == q) = false := by rw [beq_eq_false_iff_ne]; exact he
              clear HK1 HK2 he
              go_wp2_with fail
              go_roundw
              case rel => exact ⟨k + 1, m, cv, V, us, by omega, by omega, by go_num, rfl, HM, Lib.hid (by rw [← HG.out, HKU.out]), hO9, hB9⟩
              case measure => simp [intOf]; omega
          · have hBr_0 : Below wr.heap.size wr wr.drew := (Below.refl _ wr).drew
            go_wp2_with fail
            refine wp_region_held_drew (S := (fun w' => w'.cell? ⟨b, off + k, none⟩ = some (.int .i64 v) ∧ Below w.heap.size w w')) (by kernel_rfl) ⟨c0, hB.drew⟩ (fun hHeld => ?_)
            obtain ⟨hC_0, hB_0⟩ := id hHeld
            refine wpAnyH_take (i := 0) (oi := _) (v := ?_) rfl (by kernel_rfl) (by kernel_rfl) (by kernel_rfl) (fun _ _ _ h => h) (Or.inl ⟨by rfl, ?_⟩) (by assumption) ?_
            (rotate_left); (focus (intro wv hSw; (obtain ⟨qC, qB⟩ := hSw);  go_simp; (try with_reducible rfl)))
            try simp only [Act.put, List.getElem_toArray, List.getElem_cons_succ, List.getElem_cons_zero, List.setIfInBounds_toArray, List.set_cons_zero, List.set_cons_succ]
            refine wpAnyH_take (i := 1) (oi := _) (v := ?_) rfl (by kernel_rfl) (by kernel_rfl) (by kernel_rfl) (fun _ _ _ h => h) (Or.inl ⟨by rfl, ?_⟩) (by assumption) ?_
            (rotate_left); (focus (intro wv hSw; (obtain ⟨qC, qB⟩ := hSw);  go_simp; (try with_reducible rfl)))
            try simp only [Act.put, List.getElem_toArray, List.getElem_cons_succ, List.getElem_cons_zero, List.setIfInBounds_toArray, List.set_cons_zero, List.set_cons_succ]
            refine wpAnyH_take (i := 2) (oi := _) (v := ?_) rfl (by kernel_rfl) (by kernel_rfl) (by kernel_rfl) (fun _ _ _ h => h) (Or.inl ⟨by rfl, ?_⟩) (by assumption) ?_
            (rotate_left); (focus (intro wv hSw; (obtain ⟨qC, qB⟩ := hSw);  go_simp; (try with_reducible rfl)))
            try simp only [Act.put, List.getElem_toArray, List.getElem_cons_succ, List.getElem_cons_zero, List.setIfInBounds_toArray, List.set_cons_zero, List.set_cons_succ]
            refine wpAnyH_take (i := 3) (oi := _) (v := ?_) rfl (by kernel_rfl) (by kernel_rfl) (by kernel_rfl) (fun _ _ _ h => h) (Or.inl ⟨by rfl, ?_⟩) (by assumption) ?_
            (rotate_left); (focus (intro wv hSw; (obtain ⟨qC, qB⟩ := hSw);  go_simp; (try with_reducible rfl)))
            try simp only [Act.put, List.getElem_toArray, List.getElem_cons_succ, List.getElem_cons_zero, List.setIfInBounds_toArray, List.set_cons_zero, List.set_cons_succ]
            refine wpAnyH_take (i := 4) (oi := _) (v := ?_) rfl (by kernel_rfl) (by kernel_rfl) (by kernel_rfl) (fun _ _ _ h => h) (Or.inl ⟨by rfl, ?_⟩) (by assumption) ?_
            (rotate_left); (focus (intro wv hSw; (obtain ⟨qC, qB⟩ := hSw);  go_simp; (try with_reducible rfl)))
            try simp only [Act.put, List.getElem_toArray, List.getElem_cons_succ, List.getElem_cons_zero, List.setIfInBounds_toArray, List.set_cons_zero, List.set_cons_succ]
            refine wpAnyH_take (i := 7) (oi := _) (v := ?_) rfl (by kernel_rfl) (by kernel_rfl) (by kernel_rfl) (fun _ _ _ h => h) (Or.inl ⟨by rfl, ?_⟩) (by assumption) ?_
            (rotate_left); (focus (intro wv hSw; (obtain ⟨qC, qB⟩ := hSw);  go_simp; (try with_reducible rfl)))
            try simp only [Act.put, List.getElem_toArray, List.getElem_cons_succ, List.getElem_cons_zero, List.setIfInBounds_toArray, List.set_cons_zero, List.set_cons_succ]
            refine wpAnyH_take (i := 8) (oi := _) (v := ?_) rfl (by kernel_rfl) (by kernel_rfl) (by kernel_rfl) (fun _ _ _ h => h) (Or.inl ⟨by rfl, ?_⟩) (by assumption) ?_
            (rotate_left); (focus (intro wv hSw; (obtain ⟨qC, qB⟩ := hSw);  go_simp; (try with_reducible rfl)))
            try simp only [Act.put, List.getElem_toArray, List.getElem_cons_succ, List.getElem_cons_zero, List.setIfInBounds_toArray, List.set_cons_zero, List.set_cons_succ]
            refine wpAnyH_take (i := 9) (oi := _) (v := ?_) rfl (by kernel_rfl) (by kernel_rfl) (by kernel_rfl) (fun _ _ _ h => h) (Or.inl ⟨by rfl, ?_⟩) (by assumption) ?_
            (rotate_left); (focus (intro wv hSw; (obtain ⟨qC, qB⟩ := hSw);  go_simp; (try with_reducible rfl)))
            try simp only [Act.put, List.getElem_toArray, List.getElem_cons_succ, List.getElem_cons_zero, List.setIfInBounds_toArray, List.set_cons_zero, List.set_cons_succ]
            refine wpAnyH_ready (rs := [5]) (by kernel_rfl) (by simp) ?_
            refine AllReadyH.cons (o := _) rfl (fun K hK => ?_) AllReadyH.nil
            go_simp
            (go_at_call 31; refine (iRm_is _ _ (xs.drop j) _ HL1.out (.inl HNIL.out) (by omega) HP.out).mono ?_; rintro e x0c ⟨rfl, hw_0c⟩)
            refine hK.out _ _ ⟨celS_next hC_0 hw_0c, bel_next hB_0 hw_0c⟩ (fun hHeld => ?_)
            clear hK K
            try simp only [Act.put, List.getElem_toArray, List.getElem_cons_succ, List.getElem_cons_zero, List.setIfInBounds_toArray, List.set_cons_zero, List.set_cons_succ]
            obtain ⟨hC_0c, hB_0c⟩ := id hHeld
            have hBr_0c := bel_next hBr_0 hw_0c
            refine wpAnyH_take (i := 6) (oi := _) (v := ?_) rfl (by kernel_rfl) (by kernel_rfl) (by kernel_rfl) (fun _ _ _ h => h) (Or.inl ⟨by rfl, ?_⟩) (by assumption) ?_
            (rotate_left); (focus (intro wv hSw; (obtain ⟨qC, qB⟩ := hSw);  go_simp; (try with_reducible rfl)))
            try simp only [Act.put, List.getElem_toArray, List.getElem_cons_succ, List.getElem_cons_zero, List.setIfInBounds_toArray, List.set_cons_zero, List.set_cons_succ]
            refine wpAnyH_ready (rs := [10]) (by kernel_rfl) (by simp) ?_
            refine AllReadyH.cons (o := _) rfl (fun K hK => ?_) AllReadyH.nil
            go_simp
            (go_at_call 31; refine (iRm_is _ _ (xs.drop k) _ HL2.out (SRow.from7 (h.next hB_0c) k) (by omega) HQ.out).mono ?_; rintro e x0cc ⟨rfl, hw_0cc⟩)
            refine hK.out _ _ ⟨celS_next hC_0c hw_0cc, bel_next hB_0c hw_0cc⟩ (fun hHeld => ?_)
            clear hK K
            try simp only [Act.put, List.getElem_toArray, List.getElem_cons_succ, List.getElem_cons_zero, List.setIfInBounds_toArray, List.set_cons_zero, List.set_cons_succ]
            obtain ⟨hC_0cc, hB_0cc⟩ := id hHeld
            have hBr_0cc := bel_next hBr_0c hw_0cc
            refine wpAnyH_take (i := 11) (oi := _) (v := ?_) rfl (by kernel_rfl) (by kernel_rfl) (by kernel_rfl) (fun _ _ _ h => h) (Or.inl ⟨by rfl, ?_⟩) (by assumption) ?_
            (rotate_left); (focus (intro wv hSw; (obtain ⟨qC, qB⟩ := hSw);  go_simp; (try with_reducible rfl)))
            try simp only [Act.put, List.getElem_toArray, List.getElem_cons_succ, List.getElem_cons_zero, List.setIfInBounds_toArray, List.set_cons_zero, List.set_cons_succ]
            refine wpAnyH_done (by kernel_rfl) ?_ _
            have hO9 := hO.next hBr_0cc
            have hB9 := hB_0cc
            clear hB_0
            by_cases he : v + p = q
            · have HKU := Lib.hid (HK1.out he)
              have hbe : (v + p == q) = true := by rw [beq_iff_eq]; exact he
              clear HK1 HK2 he
              have hOa := hO9.alloc (.cells (encNum.enc (k : Int)).toArray 3)
              have hcp9 := hB9.size
              go_wp2_with (at_builtin; refine wpList_append_lies _ rfl (.tmp 32) (.tmp 34) _ rfl w.heap.size 3 i0 _ 1 8 Try.underlying38 HI.out.1 HI.out.2.1 HI.out.2.2.1 HI.out.2.2.2 rfl (by omega) (.slice V m cv) m (encNum.flat us) rfl (by unfold SOwn at hOa; rw [HM.out] at hOa; exact hOa) ⟨x0cc.heap.size, 0, none⟩ 1 1 (encNum.enc (k : Int)) rfl rfl (new_enc (E := encNum) x0cc (k : Int) _) (encNum.one _) (by omega) (by simp only [maxLen]; omega) (by omega) (by simp; omega) _ rfl ?_; intro g5 cap5 w5 hown5 hgr5 hat5 hlt5)
              have hB5 := SOwn.below_grown (n := m) hOa (hB9.alloc hB9.size _) hgr5
              have hsn := SOwn.snoc (E := encNum) (xs := us) (x := (k : Int)) (by rw [HM.out]; exact hown5)
              go_wp2_with fail
              go_roundw
              case rel => exact ⟨k + 2, m + 1, cap5, some ⟨g5, 0, none⟩, us ++ [(k : Int)], by omega, by omega, by go_num, rfl, Lib.hid (by rw [List.length_append, HM.out]; rfl), Lib.hid (by rw [← HG.out, HKU.out, List.append_assoc]; rfl), hsn, hB5⟩
              case measure => simp [intOf]; omega
            · have HKU := Lib.hid (HK2.out he)
              have hbe : (v + p == q) = false := by rw [beq_eq_false_iff_ne]; exact he
              clear HK1 HK2 he
              go_wp2_with fail
              go_roundw
              case rel => exact ⟨k + 1, m, cv, V, us, by omega, by omega, by go_num, rfl, HM, Lib.hid (by rw [← HG.out, HKU.out]), hO9, hB9⟩
              case measure => simp [intOf]; omega
        · have hj5 : ((k : Int) + 2).toNat = j := by omega
          have hj6 : (k : Int) + 2 = (j : Int) := by omega
          have hj7 : IntKind.i64.wrap (j : Int) = (j : Int) := IntWalk.i64_in _ (by omega)
          have hj8 : ¬ (n : Int) < (j : Int) := by omega
          have hif9 : (if (n : Int) < (j : Int) then (n : Int) else (j : Int)) = (j : Int) := if_neg hj8
          clear hkn
          by_cases hcj : cap = j
          · obtain rfl : n = j := by omega
            have HNIL : Hid (xs.drop n = []) := Lib.hid (List.drop_eq_nil_of_le (by rw [HN.out]; omega))
            clear HL1
            have HL1 : Hid ((xs.drop n).length = 0) := Lib.hid (by rw [HNIL.out]; rfl)
            subst hcj
            have hBr_0 : Below wr.heap.size wr wr.drew := (Below.refl _ wr).drew
            go_wp2_with fail
            refine wp_region_held_drew (S := (fun w' => w'.cell? ⟨b, off + k, none⟩ = some (.int .i64 v) ∧ Below w.heap.size w w')) (by kernel_rfl) ⟨c0, hB.drew⟩ (fun hHeld => ?_)
            obtain ⟨hC_0, hB_0⟩ := id hHeld
            refine wpAnyH_take (i := 0) (oi := _) (v := ?_) rfl (by kernel_rfl) (by kernel_rfl) (by kernel_rfl) (fun _ _ _ h => h) (Or.inl ⟨by rfl, ?_⟩) (by assumption) ?_
            (rotate_left); (focus (intro wv hSw; (obtain ⟨qC, qB⟩ := hSw);  go_simp; (try with_reducible rfl)))
            try simp only [Act.put, List.getElem_toArray, List.getElem_cons_succ, List.getElem_cons_zero, List.setIfInBounds_toArray, List.set_cons_zero, List.set_cons_succ]
            refine wpAnyH_take (i := 1) (oi := _) (v := ?_) rfl (by kernel_rfl) (by kernel_rfl) (by kernel_rfl) (fun _ _ _ h => h) (Or.inl ⟨by rfl, ?_⟩) (by assumption) ?_
            (rotate_left); (focus (intro wv hSw; (obtain ⟨qC, qB⟩ := hSw);  go_simp; (try with_reducible rfl)))
            try simp only [Act.put, List.getElem_toArray, List.getElem_cons_succ, List.getElem_cons_zero, List.setIfInBounds_toArray, List.set_cons_zero, List.set_cons_succ]
            refine wpAnyH_take (i := 2) (oi := _) (v := ?_) rfl (by kernel_rfl) (by kernel_rfl) (by kernel_rfl) (fun _ _ _ h => h) (Or.inl ⟨by rfl, ?_⟩) (by assumption) ?_
            (rotate_left); (focus (intro wv hSw; (obtain ⟨qC, qB⟩ := hSw);  go_simp; (try with_reducible rfl)))
            try simp only [Act.put, List.getElem_toArray, List.getElem_cons_succ, List.getElem_cons_zero, List.setIfInBounds_toArray, List.set_cons_zero, List.set_cons_succ]
            refine wpAnyH_take (i := 3) (oi := _) (v := ?_) rfl (by kernel_rfl) (by kernel_rfl) (by kernel_rfl) (fun _ _ _ h => h) (Or.inl ⟨by rfl, ?_⟩) (by assumption) ?_
            (rotate_left); (focus (intro wv hSw; (obtain ⟨qC, qB⟩ := hSw);  go_simp; (try with_reducible rfl)))
            try simp only [Act.put, List.getElem_toArray, List.getElem_cons_succ, List.getElem_cons_zero, List.setIfInBounds_toArray, List.set_cons_zero, List.set_cons_succ]
            refine wpAnyH_take (i := 4) (oi := _) (v := ?_) rfl (by kernel_rfl) (by kernel_rfl) (by kernel_rfl) (fun _ _ _ h => h) (Or.inl ⟨by rfl, ?_⟩) (by assumption) ?_
            (rotate_left); (focus (intro wv hSw; (obtain ⟨qC, qB⟩ := hSw);  go_simp; (try with_reducible rfl)))
            try simp only [Act.put, List.getElem_toArray, List.getElem_cons_succ, List.getElem_cons_zero, List.setIfInBounds_toArray, List.set_cons_zero, List.set_cons_succ]
            refine wpAnyH_take (i := 7) (oi := _) (v := ?_) rfl (by kernel_rfl) (by kernel_rfl) (by kernel_rfl) (fun _ _ _ h => h) (Or.inl ⟨by rfl, ?_⟩) (by assumption) ?_
            (rotate_left); (focus (intro wv hSw; (obtain ⟨qC, qB⟩ := hSw);  go_simp; (try with_reducible rfl)))
            try simp only [Act.put, List.getElem_toArray, List.getElem_cons_succ, List.getElem_cons_zero, List.setIfInBounds_toArray, List.set_cons_zero, List.set_cons_succ]
            refine wpAnyH_take (i := 8) (oi := _) (v := ?_) rfl (by kernel_rfl) (by kernel_rfl) (by kernel_rfl) (fun _ _ _ h => h) (Or.inl ⟨by rfl, ?_⟩) (by assumption) ?_
            (rotate_left); (focus (intro wv hSw; (obtain ⟨qC, qB⟩ := hSw);  go_simp; (try with_reducible rfl)))
            try simp only [Act.put, List.getElem_toArray, List.getElem_cons_succ, List.getElem_cons_zero, List.setIfInBounds_toArray, List.set_cons_zero, List.set_cons_succ]
            refine wpAnyH_take (i := 9) (oi := _) (v := ?_) rfl (by kernel_rfl) (by kernel_rfl) (by kernel_rfl) (fun _ _ _ h => h) (Or.inl ⟨by rfl, ?_⟩) (by assumption) ?_
            (rotate_left); (focus (intro wv hSw; (obtain ⟨qC, qB⟩ := hSw);  go_simp; (try with_reducible rfl)))
            try simp only [Act.put, List.getElem_toArray, List.getElem_cons_succ, List.getElem_cons_zero, List.setIfInBounds_toArray, List.set_cons_zero, List.set_cons_succ]
            refine wpAnyH_ready (rs := [5]) (by kernel_rfl) (by simp) ?_
            refine AllReadyH.cons (o := _) rfl (fun K hK => ?_) AllReadyH.nil
            go_simp
            (go_at_call 31; refine (iRm_is _ _ (xs.drop cap) _ HL1.out (.inl HNIL.out) (by omega) HP.out).mono ?_; rintro e x0c ⟨rfl, hw_0c⟩)
            refine hK.out _ _ ⟨celS_next hC_0 hw_0c, bel_next hB_0 hw_0c⟩ (fun hHeld => ?_)
            clear hK K
            try simp only [Act.put, List.getElem_toArray, List.getElem_cons_succ, List.getElem_cons_zero, List.setIfInBounds_toArray, List.set_cons_zero, List.set_cons_succ]
            obtain ⟨hC_0c, hB_0c⟩ := id hHeld
            have hBr_0c := bel_next hBr_0 hw_0c
            refine wpAnyH_take (i := 6) (oi := _) (v := ?_) rfl (by kernel_rfl) (by kernel_rfl) (by kernel_rfl) (fun _ _ _ h => h) (Or.inl ⟨by rfl, ?_⟩) (by assumption) ?_
            (rotate_left); (focus (intro wv hSw; (obtain ⟨qC, qB⟩ := hSw);  go_simp; (try with_reducible rfl)))
            try simp only [Act.put, List.getElem_toArray, List.getElem_cons_succ, List.getElem_cons_zero, List.setIfInBounds_toArray, List.set_cons_zero, List.set_cons_succ]
            refine wpAnyH_ready (rs := [10]) (by kernel_rfl) (by simp) ?_
            refine AllReadyH.cons (o := _) rfl (fun K hK => ?_) AllReadyH.nil
            go_simp
            (go_at_call 31; refine (iRm_is _ _ (xs.drop k) _ HL2.out (SRow.from7 (h.next hB_0c) k) (by omega) HQ.out).mono ?_; rintro e x0cc ⟨rfl, hw_0cc⟩)
            refine hK.out _ _ ⟨celS_next hC_0c hw_0cc, bel_next hB_0c hw_0cc⟩ (fun hHeld => ?_)
            clear hK K
            try simp only [Act.put, List.getElem_toArray, List.getElem_cons_succ, List.getElem_cons_zero, List.setIfInBounds_toArray, List.set_cons_zero, List.set_cons_succ]
            obtain ⟨hC_0cc, hB_0cc⟩ := id hHeld
            have hBr_0cc := bel_next hBr_0c hw_0cc
            refine wpAnyH_take (i := 11) (oi := _) (v := ?_) rfl (by kernel_rfl) (by kernel_rfl) (by kernel_rfl) (fun _ _ _ h => h) (Or.inl ⟨by rfl, ?_⟩) (by assumption) ?_
            (rotate_left); (focus (intro wv hSw; (obtain ⟨qC, qB⟩ := hSw);  go_simp; (try with_reducible rfl)))
            try simp only [Act.put, List.getElem_toArray, List.getElem_cons_succ, List.getElem_cons_zero, List.setIfInBounds_toArray, List.set_cons_zero, List.set_cons_succ]
            refine wpAnyH_done (by kernel_rfl) ?_ _
            have hO9 := hO.next hBr_0cc
            have hB9 := hB_0cc
            clear hB_0
            by_cases he : v + p = q
            · have HKU := Lib.hid (HK1.out he)
              have hbe : (v + p == q) = true := by rw [beq_iff_eq]; exact he
              clear HK1 HK2 he
              have hOa := hO9.alloc (.cells (encNum.enc (k : Int)).toArray 3)
              have hcp9 := hB9.size
              go_wp2_with (at_builtin; refine wpList_append_lies _ rfl (.tmp 32) (.tmp 34) _ rfl w.heap.size 3 i0 _ 1 8 Try.underlying38 HI.out.1 HI.out.2.1 HI.out.2.2.1 HI.out.2.2.2 rfl (by omega) (.slice V m cv) m (encNum.flat us) rfl (by unfold SOwn at hOa; rw [HM.out] at hOa; exact hOa) ⟨x0cc.heap.size, 0, none⟩ 1 1 (encNum.enc (k : Int)) rfl rfl (new_enc (E := encNum) x0cc (k : Int) _) (encNum.one _) (by omega) (by simp only [maxLen]; omega) (by omega) (by simp; omega) _ rfl ?_; intro g5 cap5 w5 hown5 hgr5 hat5 hlt5)
              have hB5 := SOwn.below_grown (n := m) hOa (hB9.alloc hB9.size _) hgr5
              have hsn := SOwn.snoc (E := encNum) (xs := us) (x := (k : Int)) (by rw [HM.out]; exact hown5)
              go_wp2_with fail
              go_roundw
              case rel => exact ⟨k + 2, m + 1, cap5, some ⟨g5, 0, none⟩, us ++ [(k : Int)], by omega, by omega, by go_num, rfl, Lib.hid (by rw [List.length_append, HM.out]; rfl), Lib.hid (by rw [← HG.out, HKU.out, List.append_assoc]; rfl), hsn, hB5⟩
              case measure => simp [intOf]; omega
            · have HKU := Lib.hid (HK2.out he)
              have hbe : (v + p == q) = false := by rw [beq_eq_false_iff_ne]; exact he
              clear HK1 HK2 he
              go_wp2_with fail
              go_roundw
              case rel => exact ⟨k + 1, m, cv, V, us, by omega, by omega, by go_num, rfl, HM, Lib.hid (by rw [← HG.out, HKU.out]), hO9, hB9⟩
              case measure => simp [intOf]; omega
          · have hBr_0 : Below wr.heap.size wr wr.drew := (Below.refl _ wr).drew
            go_wp2_with fail
            refine wp_region_held_drew (S := (fun w' => w'.cell? ⟨b, off + k, none⟩ = some (.int .i64 v) ∧ Below w.heap.size w w')) (by kernel_rfl) ⟨c0, hB.drew⟩ (fun hHeld => ?_)
            obtain ⟨hC_0, hB_0⟩ := id hHeld
            refine wpAnyH_take (i := 0) (oi := _) (v := ?_) rfl (by kernel_rfl) (by kernel_rfl) (by kernel_rfl) (fun _ _ _ h => h) (Or.inl ⟨by rfl, ?_⟩) (by assumption) ?_
            (rotate_left); (focus (intro wv hSw; (obtain ⟨qC, qB⟩ := hSw);  go_simp; (try with_reducible rfl)))
            try simp only [Act.put, List.getElem_toArray, List.getElem_cons_succ, List.getElem_cons_zero, List.setIfInBounds_toArray, List.set_cons_zero, List.set_cons_succ]
            refine wpAnyH_take (i := 1) (oi := _) (v := ?_) rfl (by kernel_rfl) (by kernel_rfl) (by kernel_rfl) (fun _ _ _ h => h) (Or.inl ⟨by rfl, ?_⟩) (by assumption) ?_
            (rotate_left); (focus (intro wv hSw; (obtain ⟨qC, qB⟩ := hSw);  go_simp; (try with_reducible rfl)))
            try simp only [Act.put, List.getElem_toArray, List.getElem_cons_succ, List.getElem_cons_zero, List.setIfInBounds_toArray, List.set_cons_zero, List.set_cons_succ]
            refine wpAnyH_take (i := 2) (oi := _) (v := ?_) rfl (by kernel_rfl) (by kernel_rfl) (by kernel_rfl) (fun _ _ _ h => h) (Or.inl ⟨by rfl, ?_⟩) (by assumption) ?_
            (rotate_left); (focus (intro wv hSw; (obtain ⟨qC, qB⟩ := hSw);  go_simp; (try with_reducible rfl)))
            try simp only [Act.put, List.getElem_toArray, List.getElem_cons_succ, List.getElem_cons_zero, List.setIfInBounds_toArray, List.set_cons_zero, List.set_cons_succ]
            refine wpAnyH_take (i := 3) (oi := _) (v := ?_) rfl (by kernel_rfl) (by kernel_rfl) (by kernel_rfl) (fun _ _ _ h => h) (Or.inl ⟨by rfl, ?_⟩) (by assumption) ?_
            (rotate_left); (focus (intro wv hSw; (obtain ⟨qC, qB⟩ := hSw);  go_simp; (try with_reducible rfl)))
            try simp only [Act.put, List.getElem_toArray, List.getElem_cons_succ, List.getElem_cons_zero, List.setIfInBounds_toArray, List.set_cons_zero, List.set_cons_succ]
            refine wpAnyH_take (i := 4) (oi := _) (v := ?_) rfl (by kernel_rfl) (by kernel_rfl) (by kernel_rfl) (fun _ _ _ h => h) (Or.inl ⟨by rfl, ?_⟩) (by assumption) ?_
            (rotate_left); (focus (intro wv hSw; (obtain ⟨qC, qB⟩ := hSw);  go_simp; (try with_reducible rfl)))
            try simp only [Act.put, List.getElem_toArray, List.getElem_cons_succ, List.getElem_cons_zero, List.setIfInBounds_toArray, List.set_cons_zero, List.set_cons_succ]
            refine wpAnyH_take (i := 7) (oi := _) (v := ?_) rfl (by kernel_rfl) (by kernel_rfl) (by kernel_rfl) (fun _ _ _ h => h) (Or.inl ⟨by rfl, ?_⟩) (by assumption) ?_
            (rotate_left); (focus (intro wv hSw; (obtain ⟨qC, qB⟩ := hSw);  go_simp; (try with_reducible rfl)))
            try simp only [Act.put, List.getElem_toArray, List.getElem_cons_succ, List.getElem_cons_zero, List.setIfInBounds_toArray, List.set_cons_zero, List.set_cons_succ]
            refine wpAnyH_take (i := 8) (oi := _) (v := ?_) rfl (by kernel_rfl) (by kernel_rfl) (by kernel_rfl) (fun _ _ _ h => h) (Or.inl ⟨by rfl, ?_⟩) (by assumption) ?_
            (rotate_left); (focus (intro wv hSw; (obtain ⟨qC, qB⟩ := hSw);  go_simp; (try with_reducible rfl)))
            try simp only [Act.put, List.getElem_toArray, List.getElem_cons_succ, List.getElem_cons_zero, List.setIfInBounds_toArray, List.set_cons_zero, List.set_cons_succ]
            refine wpAnyH_take (i := 9) (oi := _) (v := ?_) rfl (by kernel_rfl) (by kernel_rfl) (by kernel_rfl) (fun _ _ _ h => h) (Or.inl ⟨by rfl, ?_⟩) (by assumption) ?_
            (rotate_left); (focus (intro wv hSw; (obtain ⟨qC, qB⟩ := hSw);  go_simp; (try with_reducible rfl)))
            try simp only [Act.put, List.getElem_toArray, List.getElem_cons_succ, List.getElem_cons_zero, List.setIfInBounds_toArray, List.set_cons_zero, List.set_cons_succ]
            refine wpAnyH_ready (rs := [5]) (by kernel_rfl) (by simp) ?_
            refine AllReadyH.cons (o := _) rfl (fun K hK => ?_) AllReadyH.nil
            go_simp
            (go_at_call 31; refine (iRm_is _ _ (xs.drop j) _ HL1.out (SRow.from7 (h.next hB_0) j) (by omega) HP.out).mono ?_; rintro e x0c ⟨rfl, hw_0c⟩)
            refine hK.out _ _ ⟨celS_next hC_0 hw_0c, bel_next hB_0 hw_0c⟩ (fun hHeld => ?_)
            clear hK K
            try simp only [Act.put, List.getElem_toArray, List.getElem_cons_succ, List.getElem_cons_zero, List.setIfInBounds_toArray, List.set_cons_zero, List.set_cons_succ]
            obtain ⟨hC_0c, hB_0c⟩ := id hHeld
            have hBr_0c := bel_next hBr_0 hw_0c
            refine wpAnyH_take (i := 6) (oi := _) (v := ?_) rfl (by kernel_rfl) (by kernel_rfl) (by kernel_rfl) (fun _ _ _ h => h) (Or.inl ⟨by rfl, ?_⟩) (by assumption) ?_
            (rotate_left); (focus (intro wv hSw; (obtain ⟨qC, qB⟩ := hSw);  go_simp; (try with_reducible rfl)))
            try simp only [Act.put, List.getElem_toArray, List.getElem_cons_succ, List.getElem_cons_zero, List.setIfInBounds_toArray, List.set_cons_zero, List.set_cons_succ]
            refine wpAnyH_ready (rs := [10]) (by kernel_rfl) (by simp) ?_
            refine AllReadyH.cons (o := _) rfl (fun K hK => ?_) AllReadyH.nil
            go_simp
            (go_at_call 31; refine (iRm_is _ _ (xs.drop k) _ HL2.out (SRow.from7 (h.next hB_0c) k) (by omega) HQ.out).mono ?_; rintro e x0cc ⟨rfl, hw_0cc⟩)
            refine hK.out _ _ ⟨celS_next hC_0c hw_0cc, bel_next hB_0c hw_0cc⟩ (fun hHeld => ?_)
            clear hK K
            try simp only [Act.put, List.getElem_toArray, List.getElem_cons_succ, List.getElem_cons_zero, List.setIfInBounds_toArray, List.set_cons_zero, List.set_cons_succ]
            obtain ⟨hC_0cc, hB_0cc⟩ := id hHeld
            have hBr_0cc := bel_next hBr_0c hw_0cc
            refine wpAnyH_take (i := 11) (oi := _) (v := ?_) rfl (by kernel_rfl) (by kernel_rfl) (by kernel_rfl) (fun _ _ _ h => h) (Or.inl ⟨by rfl, ?_⟩) (by assumption) ?_
            (rotate_left); (focus (intro wv hSw; (obtain ⟨qC, qB⟩ := hSw);  go_simp; (try with_reducible rfl)))
            try simp only [Act.put, List.getElem_toArray, List.getElem_cons_succ, List.getElem_cons_zero, List.setIfInBounds_toArray, List.set_cons_zero, List.set_cons_succ]
            refine wpAnyH_done (by kernel_rfl) ?_ _
            have hO9 := hO.next hBr_0cc
            have hB9 := hB_0cc
            clear hB_0
            by_cases he : v + p = q
            · have HKU := Lib.hid (HK1.out he)
              have hbe : (v + p == q) = true := by rw [beq_iff_eq]; exact he
              clear HK1 HK2 he
              have hOa := hO9.alloc (.cells (encNum.enc (k : Int)).toArray 3)
              have hcp9 := hB9.size
              go_wp2_with (at_builtin; refine wpList_append_lies _ rfl (.tmp 32) (.tmp 34) _ rfl w.heap.size 3 i0 _ 1 8 Try.underlying38 HI.out.1 HI.out.2.1 HI.out.2.2.1 HI.out.2.2.2 rfl (by omega) (.slice V m cv) m (encNum.flat us) rfl (by unfold SOwn at hOa; rw [HM.out] at hOa; exact hOa) ⟨x0cc.heap.size, 0, none⟩ 1 1 (encNum.enc (k : Int)) rfl rfl (new_enc (E := encNum) x0cc (k : Int) _) (encNum.one _) (by omega) (by simp only [maxLen]; omega) (by omega) (by simp; omega) _ rfl ?_; intro g5 cap5 w5 hown5 hgr5 hat5 hlt5)
              have hB5 := SOwn.below_grown (n := m) hOa (hB9.alloc hB9.size _) hgr5
              have hsn := SOwn.snoc (E := encNum) (xs := us) (x := (k : Int)) (by rw [HM.out]; exact hown5)
              go_wp2_with fail
              go_roundw
              case rel => exact ⟨k + 2, m + 1, cap5, some ⟨g5, 0, none⟩, us ++ [(k : Int)], by omega, by omega, by go_num, rfl, Lib.hid (by rw [List.length_append, HM.out]; rfl), Lib.hid (by rw [← HG.out, HKU.out, List.append_assoc]; rfl), hsn, hB5⟩
              case measure => simp [intOf]; omega
            · have HKU := Lib.hid (HK2.out he)
              have hbe : (v + p == q) = false := by rw [beq_eq_false_iff_ne]; exact he
              clear HK1 HK2 he
              go_wp2_with fail
              go_roundw
              case rel => exact ⟨k + 1, m, cv, V, us, by omega, by omega, by go_num, rfl, HM, Lib.hid (by rw [← HG.out, HKU.out]), hO9, hB9⟩
              case measure => simp [intOf]; omega
      · have hki : ¬ (k : Int) < (n : Int) := by omega
        have he9 := HG.out
        rw [rbG_end (by rw [HN.out]; exact hlt), List.append_nil] at he9
        subst he9
        go_wp2_with fail
        go_ret
        exact ⟨V, cv, ret_slice7 HM.out.symm, hO, hB⟩
set_option maxRecDepth 100000 in
set_option maxHeartbeats 4000000 in
theorem sRb_is (A : Option Addr) (cap : Nat) (xs : List Int) {n : Nat} {l : List Int} (w : World) (hn : xs.length = n) (h : SRow encNum w A xs) (hl : n ≤ 2000000) (hr : rbL xs = l) :
    Calls Try.prog 38 #[.slice A n cap] w fun E w' => NumsRet7 l w E w' := by
  cases hv : rwB xs
  · obtain rfl : l = [] := by rw [← hr]; exact rbL_no hv
    have HV := Lib.hid hv
    clear hv hr
    go_enter Try.func38, Try.ntmps38
    go_wp2_with fail
    refine (sRw_is A cap xs _ hn (h.next (bel1 w _)) hl HV.out).mono ?_; rintro E w1 ⟨rfl, hw1⟩
    have hB1 := bel_next (bel1 w _) hw1
    have hO1 := (SOwn.empty (E := encNum) (blk_new w (.cells #[] 3)) (Nat.le_refl w.heap.size)).next hw1
    go_wp2
    go_ret
    exact ⟨_, 0, rfl, hO1, hB1⟩
  · obtain ⟨i0, hi0, hz0, hz1, hz2⟩ := info_parts infoNum
    have HI := Lib.hid (And.intro hi0 (And.intro hz0 (And.intro hz1 hz2)))
    clear hi0 hz0 hz1 hz2
    have hr2 : rbG xs 0 = l := by rw [← hr]; unfold rbL; rw [if_pos hv]
    have hn10 : n ≤ 10 := by have := (rwB_iff.1 hv).1; omega
    have HV := Lib.hid hv
    have HR := Lib.hid hr2
    have HN := Lib.hid hn
    clear hv hr hr2 hn
    go_enter Try.func38, Try.ntmps38
    go_wp2_with fail
    refine (sRw_is A cap xs _ HN.out (h.next (bel1 w _)) hl HV.out).mono ?_; rintro E w1 ⟨rfl, hw1⟩
    have hB1 := bel_next (bel1 w _) hw1
    have hO1 := (SOwn.empty (E := encNum) (blk_new w (.cells #[] 3)) (Nat.le_refl w.heap.size)).next hw1
    have hg1 : w.heap.size < w1.heap.size := by have := hw1.size; simp at this; omega
    go_wp2_with fail
    refine (sTb_any A cap xs _ HN.out (h.next hB1) hn10 HV.out).mono ?_; rintro E w2 ⟨gt, ct, rfl, hT2, hw2⟩
    have hB2 := bel_next hB1 hw2
    have hO2 := hO1.next hw2
    have hgt : w1.heap.size ≤ gt ∧ gt < w2.heap.size := by rcases hT2.form with ⟨e, _⟩ | ⟨g1, e, h3, h4⟩; cases e; cases e; exact ⟨h3, h4⟩
    have hTL : (tbB xs 0).length = n + 2 := by rw [tbB_len, HN.out]
    rw [hTL]
    have HTL := Lib.hid hTL
    have hT3 := hT2.mono hB1.size
    clear hT2 hTL
    obtain ⟨hgt1, hgt2⟩ := hgt
    go_wp2_with fail
    go_loopw [3, 5] (fun v i wr => ∃ (k m cv gv : Nat) (us : List Int), k ≤ n + 1 ∧ m ≤ k ∧ i = .int .i64 k ∧ v = .slice (some ⟨gv, 0, none⟩) m cv ∧ gv ≠ gt ∧ gt < wr.heap.size ∧ Hid (us.length = m) ∧ Hid (us ++ rbG xs k = l) ∧ SOwn encNum wr w.heap.size 3 (some ⟨gv, 0, none⟩) cv us ∧ SOwn encNum wr w.heap.size 3 (some ⟨gt, 0, none⟩) ct (tbB xs 0) ∧ Below w.heap.size w wr) (fun _ i _ => (n + 2 - intOf i).toNat)
    case atStart => exact ⟨0, 0, 0, _, [], by omega, by omega, rfl, rfl, by omega, hgt2, (by show _ = _; rfl), Lib.hid (by rw [List.nil_append]; exact HR.out), hO2, hT3, hB2⟩
    case round =>
      clear hO2 hT3 hB2
      obtain ⟨k, m, cv, gv, us, k1, mk, rfl, rfl, hne, hgw, HM, HG, hO, hT, hB⟩ := hrel
      by_cases hlt : k < n
      · have hk : k < xs.length := by rw [HN.out]; exact hlt
        have hki : (k : Int) < (n : Int) := by omega
        obtain ⟨b, off, rfl, hb, c0⟩ := rowNum (h.next hB) hk
        have d0 := ownNum (i := k + 2) hT (by rw [HTL.out]; omega)
        have e0 := ownNum (i := k) hT (by rw [HTL.out]; omega)
        rw [tbB_at _ _ (Nat.zero_le _)] at d0 e0
        have HK1 := Lib.hid (rbG_use (xs := xs) (p := k) hk)
        have HK2 := Lib.hid (rbG_skip (xs := xs) (p := k) hk)
        obtain ⟨p0, p1⟩ := bk_drop_bd HV.out (k + 2)
        obtain ⟨q0, q1⟩ := bk_drop_bd HV.out k
        obtain ⟨v0, v1⟩ := rwB_at HV.out hk
        generalize bk (xs.drop (k + 2)) = p at d0 HK1 HK2 p0 p1
        generalize bk (xs.drop k) = q at e0 HK1 HK2 q0 q1
        generalize xs[k] = v at c0 v0 v1 HK1 HK2
        have wz1 : IntKind.i64.wrap (v + p) = v + p := IntWalk.i64_in _ (by omega)
        have wz2 : IntKind.i64.wrap ((k : Int) + 2) = (k : Int) + 2 := IntWalk.i64_in _ (by omega)
        have hcp := hB.size
        have hj5 : ((k : Int) + 2).toNat = k + 2 := by omega
        have hj6 : (0 : Int) ≤ (k : Int) + 2 := by omega
        have hj7 : (k : Int) + 2 < ((n + 2 : Nat) : Int) := by omega
        have hj8 : (k : Int) + 2 < (n : Int) + 2 := by omega
        have hj9 : (k : Int) < ((n + 2 : Nat) : Int) := by omega
        have hj10 : (k : Int) < (n : Int) + 2 := by omega
        go_wp2_with fail
        refine wp_region_held_drew (S := (fun w' => w'.cell? ⟨b, off + k, none⟩ = some (.int .i64 v) ∧ w'.cell? ⟨gt, k + 2, none⟩ = some (.int .i64 p) ∧ w'.cell? ⟨gt, k, none⟩ = some (.int .i64 q) ∧ Below w.heap.size w w')) (by kernel_rfl) ⟨c0, d0, e0, hB.drew⟩ (fun hHeld => ?_)
        obtain ⟨hC_0, hD_0, hE_0, hB_0⟩ := id hHeld
        refine wpAnyH_take (i := 0) (oi := _) (v := ?_) rfl (by kernel_rfl) (by kernel_rfl) (by kernel_rfl) (fun _ _ _ h => h) (Or.inl ⟨by rfl, ?_⟩) (by assumption) ?_
        (rotate_left); (focus (intro wv hSw; (obtain ⟨qC, qD, qE, qB⟩ := hSw);  go_simp; (try with_reducible rfl)))
        try simp only [Act.put, List.getElem_toArray, List.getElem_cons_succ, List.getElem_cons_zero, List.setIfInBounds_toArray, List.set_cons_zero, List.set_cons_succ]
        refine wpAnyH_take (i := 1) (oi := _) (v := ?_) rfl (by kernel_rfl) (by kernel_rfl) (by kernel_rfl) (fun _ _ _ h => h) (Or.inl ⟨by rfl, ?_⟩) (by assumption) ?_
        (rotate_left); (focus (intro wv hSw; (obtain ⟨qC, qD, qE, qB⟩ := hSw);  go_simp; (try with_reducible rfl)))
        try simp only [Act.put, List.getElem_toArray, List.getElem_cons_succ, List.getElem_cons_zero, List.setIfInBounds_toArray, List.set_cons_zero, List.set_cons_succ]
        refine wpAnyH_take (i := 2) (oi := _) (v := ?_) rfl (by kernel_rfl) (by kernel_rfl) (by kernel_rfl) (fun _ _ _ h => h) (Or.inl ⟨by rfl, ?_⟩) (by assumption) ?_
        (rotate_left); (focus (intro wv hSw; (obtain ⟨qC, qD, qE, qB⟩ := hSw);  go_simp; (try with_reducible rfl)))
        try simp only [Act.put, List.getElem_toArray, List.getElem_cons_succ, List.getElem_cons_zero, List.setIfInBounds_toArray, List.set_cons_zero, List.set_cons_succ]
        refine wpAnyH_take (i := 3) (oi := _) (v := ?_) rfl (by kernel_rfl) (by kernel_rfl) (by kernel_rfl) (fun _ _ _ h => h) (Or.inl ⟨by rfl, ?_⟩) (by assumption) ?_
        (rotate_left); (focus (intro wv hSw; (obtain ⟨qC, qD, qE, qB⟩ := hSw);  go_simp; (try with_reducible rfl)))
        try simp only [Act.put, List.getElem_toArray, List.getElem_cons_succ, List.getElem_cons_zero, List.setIfInBounds_toArray, List.set_cons_zero, List.set_cons_succ]
        refine wpAnyH_take (i := 4) (oi := _) (v := ?_) rfl (by kernel_rfl) (by kernel_rfl) (by kernel_rfl) (fun _ _ _ h => h) (Or.inl ⟨by rfl, ?_⟩) (by assumption) ?_
        (rotate_left); (focus (intro wv hSw; (obtain ⟨qC, qD, qE, qB⟩ := hSw);  go_simp; (try with_reducible rfl)))
        try simp only [Act.put, List.getElem_toArray, List.getElem_cons_succ, List.getElem_cons_zero, List.setIfInBounds_toArray, List.set_cons_zero, List.set_cons_succ]
        refine wpAnyH_take (i := 5) (oi := _) (v := ?_) rfl (by kernel_rfl) (by kernel_rfl) (by kernel_rfl) (fun _ _ _ h => h) (Or.inl ⟨by rfl, ?_⟩) (by assumption) ?_
        (rotate_left); (focus (intro wv hSw; (obtain ⟨qC, qD, qE, qB⟩ := hSw);  go_simp; (try with_reducible rfl)))
        try simp only [Act.put, List.getElem_toArray, List.getElem_cons_succ, List.getElem_cons_zero, List.setIfInBounds_toArray, List.set_cons_zero, List.set_cons_succ]
        refine wpAnyH_take (i := 6) (oi := _) (v := ?_) rfl (by kernel_rfl) (by kernel_rfl) (by kernel_rfl) (fun _ _ _ h => h) (Or.inl ⟨by rfl, ?_⟩) (by assumption) ?_
        (rotate_left); (focus (intro wv hSw; (obtain ⟨qC, qD, qE, qB⟩ := hSw);  go_simp; (try with_reducible rfl)))
        try simp only [Act.put, List.getElem_toArray, List.getElem_cons_succ, List.getElem_cons_zero, List.setIfInBounds_toArray, List.set_cons_zero, List.set_cons_succ]
        refine wpAnyH_take (i := 7) (oi := _) (v := ?_) rfl (by kernel_rfl) (by kernel_rfl) (by kernel_rfl) (fun _ _ _ h => h) (Or.inl ⟨by rfl, ?_⟩) (by assumption) ?_
        (rotate_left); (focus (intro wv hSw; (obtain ⟨qC, qD, qE, qB⟩ := hSw);  go_simp; (try with_reducible rfl)))
        try simp only [Act.put, List.getElem_toArray, List.getElem_cons_succ, List.getElem_cons_zero, List.setIfInBounds_toArray, List.set_cons_zero, List.set_cons_succ]
        refine wpAnyH_take (i := 8) (oi := _) (v := ?_) rfl (by kernel_rfl) (by kernel_rfl) (by kernel_rfl) (fun _ _ _ h => h) (Or.inl ⟨by rfl, ?_⟩) (by assumption) ?_
        (rotate_left); (focus (intro wv hSw; (obtain ⟨qC, qD, qE, qB⟩ := hSw);  go_simp; (try with_reducible rfl)))
        try simp only [Act.put, List.getElem_toArray, List.getElem_cons_succ, List.getElem_cons_zero, List.setIfInBounds_toArray, List.set_cons_zero, List.set_cons_succ]
        refine wpAnyH_take (i := 9) (oi := _) (v := ?_) rfl (by kernel_rfl) (by kernel_rfl) (by kernel_rfl) (fun _ _ _ h => h) (Or.inl ⟨by rfl, ?_⟩) (by assumption) ?_
        (rotate_left); (focus (intro wv hSw; (obtain ⟨qC, qD, qE, qB⟩ := hSw);  go_simp; (try with_reducible rfl)))
        try simp only [Act.put, List.getElem_toArray, List.getElem_cons_succ, List.getElem_cons_zero, List.setIfInBounds_toArray, List.set_cons_zero, List.set_cons_succ]
        refine wpAnyH_take (i := 10) (oi := _) (v := ?_) rfl (by kernel_rfl) (by kernel_rfl) (by kernel_rfl) (fun _ _ _ h => h) (Or.inl ⟨by rfl, ?_⟩) (by assumption) ?_
        (rotate_left); (focus (intro wv hSw; (obtain ⟨qC, qD, qE, qB⟩ := hSw);  go_simp; (try with_reducible rfl)))
        try simp only [Act.put, List.getElem_toArray, List.getElem_cons_succ, List.getElem_cons_zero, List.setIfInBounds_toArray, List.set_cons_zero, List.set_cons_succ]
        refine wpAnyH_take (i := 11) (oi := _) (v := ?_) rfl (by kernel_rfl) (by kernel_rfl) (by kernel_rfl) (fun _ _ _ h => h) (Or.inl ⟨by rfl, ?_⟩) (by assumption) ?_
        (rotate_left); (focus (intro wv hSw; (obtain ⟨qC, qD, qE, qB⟩ := hSw);  go_simp; (try with_reducible rfl)))
        try simp only [Act.put, List.getElem_toArray, List.getElem_cons_succ, List.getElem_cons_zero, List.setIfInBounds_toArray, List.set_cons_zero, List.set_cons_succ]
        refine wpAnyH_take (i := 12) (oi := _) (v := ?_) rfl (by kernel_rfl) (by kernel_rfl) (by kernel_rfl) (fun _ _ _ h => h) (Or.inl ⟨by rfl, ?_⟩) (by assumption) ?_
        (rotate_left); (focus (intro wv hSw; (obtain ⟨qC, qD, qE, qB⟩ := hSw);  go_simp; (try with_reducible rfl)))
        try simp only [Act.put, List.getElem_toArray, List.getElem_cons_succ, List.getElem_cons_zero, List.setIfInBounds_toArray, List.set_cons_zero, List.set_cons_succ]
        refine wpAnyH_take (i := 13) (oi := _) (v := ?_) rfl (by kernel_rfl) (by kernel_rfl) (by kernel_rfl) (fun _ _ _ h => h) (Or.inl ⟨by rfl, ?_⟩) (by assumption) ?_
        (rotate_left); (focus (intro wv hSw; (obtain ⟨qC, qD, qE, qB⟩ := hSw);  go_simp; (try with_reducible rfl)))
        try simp only [Act.put, List.getElem_toArray, List.getElem_cons_succ, List.getElem_cons_zero, List.setIfInBounds_toArray, List.set_cons_zero, List.set_cons_succ]
        refine wpAnyH_take (i := 14) (oi := _) (v := ?_) rfl (by kernel_rfl) (by kernel_rfl) (by kernel_rfl) (fun _ _ _ h => h) (Or.inl ⟨by rfl, ?_⟩) (by assumption) ?_
        (rotate_left); (focus (intro wv hSw; (obtain ⟨qC, qD, qE, qB⟩ := hSw);  go_simp; (try with_reducible rfl)))
        try simp only [Act.put, List.getElem_toArray, List.getElem_cons_succ, List.getElem_cons_zero, List.setIfInBounds_toArray, List.set_cons_zero, List.set_cons_succ]
        refine wpAnyH_done (by kernel_rfl) ?_ _
        by_cases he : v + p = q
        · have HKU := Lib.hid (HK1.out he)
          have hbe : (v + p == q) = true := by rw [beq_iff_eq]; exact he
          clear HK1 HK2 he
          have hOa := (hO.alloc (.cells (encNum.enc (k : Int)).toArray 3)).drew
          go_wp2_with (at_builtin; refine wpList_append_lies _ rfl (.tmp 34) (.tmp 36) _ rfl w.heap.size 3 i0 _ 1 8 Try.underlying38 HI.out.1 HI.out.2.1 HI.out.2.2.1 HI.out.2.2.2 rfl (by omega) (.slice (some ⟨gv, 0, none⟩) m cv) m (encNum.flat us) rfl (by unfold SOwn at hOa; rw [HM.out] at hOa; exact hOa) ⟨wr.heap.size, 0, none⟩ 1 1 (encNum.enc (k : Int)) rfl rfl (new_enc (E := encNum) wr (k : Int) _) (encNum.one _) (by omega) (by simp only [maxLen]; omega) (by omega) (by simp; omega) _ rfl ?_; intro g5 cap5 w5 hown5 hgr5 hat5 hlt5)
          have hB5 := SOwn.below_grown (n := m) hOa (hB.alloc hB.size (.cells (encNum.enc (k : Int)).toArray 3)).drew hgr5
          have hsn := SOwn.snoc (E := encNum) (xs := us) (x := (k : Int)) (by rw [HM.out]; exact hown5)
          have hT5 := ((hT.alloc (.cells (encNum.enc (k : Int)).toArray 3)).drew).grown_far hgr5 (fun g hg e9 => by cases hg; simp [Value.ownBlock] at e9; omega)
          have hz5 : gt < w5.heap.size := by have := hgr5.size; simp at this; omega
          have hg5 : g5 ≠ gt := by rcases hat5 with e | e <;> (simp [Value.ownBlock] at e; omega)
          go_wp2_with fail
          go_roundw
          case rel => exact ⟨k + 2, m + 1, cap5, g5, us ++ [(k : Int)], by omega, by omega, by go_num, rfl, hg5, hz5, Lib.hid (by rw [List.length_append, HM.out]; rfl), Lib.hid (by rw [← HG.out, HKU.out, List.append_assoc]; rfl), hsn, hT5, hB5⟩
          case measure => simp [intOf]; omega
        · have HKU := Lib.hid (HK2.out he)
          have hbe : (v + p == q) = false := by rw [beq_eq_false_iff_ne]; exact he
          clear HK1 HK2 he
          go_wp2_with fail
          go_roundw
          case rel => exact ⟨k + 1, m, cv, gv, us, by omega, by omega, by go_num, rfl, hne, hgw, HM, Lib.hid (by rw [← HG.out, HKU.out]), hO.drew, hT.drew, hB.drew⟩
          case measure => simp [intOf]; omega
      · have hki : ¬ (k : Int) < (n : Int) := by omega
        have he9 := HG.out
        rw [rbG_end (by rw [HN.out]; exact hlt), List.append_nil] at he9
        subst he9
        go_wp2_with fail
        go_ret
        exact ⟨_, cv, ret_slice7 HM.out.symm, hO, hB⟩
end Go.Proofs.Ytfgaggdiepielaa
