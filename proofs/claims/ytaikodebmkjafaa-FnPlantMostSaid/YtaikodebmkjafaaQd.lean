/- Beds, plants and water that are drawn. -/
import Derived.Test.YtaikodebmkjafaaZd
import Derived.Test.YtaikodebmkjafaaGNum
import Derived.Test.YtaikodebmkjafaaGPlant
import Derived.Test.YtaikodebmkjafaaGBool
import Derived.Test.YtaikodebmkjafaaQm
namespace Go.Proofs.Ytaikodebmkjafaa
open Go Go.ChangeShapes Go.WideShapes Go.ChangeAt Go.RowKit
set_option linter.unusedSimpArgs false
set_option linter.unusedVariables false

def BedsIs (B : Nat) (u : Int) (w : World) (e : Ending) (w' : World) : Prop :=
  ∃ (xs : List Int) (A : Option Addr) (cap : Nat), e = .returned (.slice A xs.length cap) ∧ xs.length ≤ 7 ∧ SOwn encNum w' w.heap.size 3 A cap xs ∧ RdU B u w' ∧ Ext B w w'
set_option maxRecDepth 100000 in
set_option maxHeartbeats 8000000 in
theorem beds_any (B : Nat) (u n : Int) (w : World) (h : RdU B u w) (hu : u ≤ 600000) (hn : 0 ≤ n) (hn1 : n ≤ 1000000) : Calls Try.prog 62 #[.pointer (some ⟨B, 0, none⟩), .int .i64 n] w (BedsIs B (u + 18) w) := by
  have hBw := h.lt
  obtain ⟨i0, hi0, hz0, hz1, hz2⟩ := info_parts infoNum
  have HI := Lib.hid (And.intro hi0 (And.intro hz0 (And.intro hz1 hz2)))
  clear hi0 hz0 hz1 hz2
  go_enter Try.func62, Try.ntmps62
  go_wp2_with fail
  refine (pick_any B u 7 _ (h.alloc _) (by omega) (by omega) (by omega)).mono ?_; rintro e w1 ⟨k0, rfl, k00, k01, h1, hx1⟩
  have hO1 := (SOwn.empty (E := encNum) (blk_new w (.cells #[] 3)) (Nat.le_refl _)).extK hx1 hBw
  have hE1 := ((Ext.refl B w).alloc (.cells #[] 3)).trans hx1
  go_wp2_with fail
  go_loopw [5, 6] (fun vo vk wr => ∃ (k : Int) (xs : List Int) (g cp m : Nat), vk = .int .i64 k ∧ vo = .slice (some ⟨g, 0, none⟩) m cp ∧ 0 ≤ k ∧ (m : Int) + k ≤ 6 ∧ Hid (xs.length = m) ∧ SOwn encNum wr w.heap.size 3 (some ⟨g, 0, none⟩) cp xs ∧ RdU B (u + 1 + 2 * (6 - k)) wr ∧ Ext B w wr) (fun _ vk _ => (intOf vk).toNat)
  case atStart => exact ⟨k0, [], _, 0, 0, rfl, rfl, k00, by omega, (by show _ = _; rfl), hO1, h1.mono (by omega), hE1⟩
  case round =>
    obtain ⟨k, xs, g, cp, m, rfl, rfl, k0', mk, HM, hO, hR, hX⟩ := hrel
    by_cases hk : 0 < k
    · go_wp2_with fail
      refine (pick_any B _ 17 _ hR (by omega) (by omega) (by omega)).mono ?_; rintro e w2 ⟨a, rfl, a0, a1, h2, hx2⟩
      have hO2 := hO.extK hx2 hBw
      have hX2 := hX.trans hx2
      go_wp2_with fail
      refine (pick_any B _ 2 _ h2 (by omega) (by omega) (by omega)).mono ?_; rintro e w3 ⟨c, rfl, c0, c1, h3, hx3⟩
      have hO3 := hO2.extK hx3 hBw
      have hX3 := hX2.trans hx3
      have m0 : 0 ≤ a * (1 + c) := Int.mul_nonneg a0 (by omega)
      have m1 : a * (1 + c) ≤ 16 * 2 := Int.mul_le_mul (by omega) (by omega) (by omega) (by omega)
      have hz3 := hX3.size
      go_wp2_with (at_builtin; refine wpList_append_lies _ rfl (.tmp 14) (.tmp 22) _ rfl w.heap.size 3 i0 _ 1 8 Try.underlying23 HI.out.1 HI.out.2.1 HI.out.2.2.1 HI.out.2.2.2 rfl (by omega) (.slice (some ⟨g, 0, none⟩) m cp) m (encNum.flat xs) rfl (by have q := hO3.alloc (.cells (encNum.enc (a * (1 + c) / 2)).toArray 3); unfold SOwn at q; rw [HM.out] at q; exact q) ⟨w3.heap.size, 0, none⟩ 1 1 (encNum.enc (a * (1 + c) / 2)) rfl rfl (new_enc (E := encNum) w3 (a * (1 + c) / 2) _) (encNum.one _) (by omega) (by simp only [maxLen]; omega) (by omega) (by simp; omega) _ rfl ?_; intro g5 cap5 w7 hown5 hgr5 hat5 hlt5)
      have hne : ∀ k, Value.ownBlock (.slice (some ⟨g, 0, none⟩) m cp) = some k → B < k := fun k hk => by have := SOwn.ge_baseK (hO3.alloc (.cells (encNum.enc (a * (1 + c) / 2)).toArray 3)) k hk; omega
      have hB5 := (h3.alloc (.cells (encNum.enc (a * (1 + c) / 2)).toArray 3)).farK hgr5 hne
      have hE5 := (hX3.alloc (.cells (encNum.enc (a * (1 + c) / 2)).toArray 3)).far_grownK hgr5 (SOwn.ge_baseK (hO3.alloc (.cells (encNum.enc (a * (1 + c) / 2)).toArray 3)))
      go_wp2_with fail
      go_roundw
      case rel => exact ⟨k - 1, xs ++ [(a * (1 + c) / 2)], g5, cap5, m + 1, by go_num, rfl, by omega, by push_cast; omega, (by show _ = _; rw [List.length_append, HM.out]; rfl), SOwn.snoc (E := encNum) (by rw [HM.out]; exact hown5), hB5.mono (by omega), hE5⟩
      case measure => simp [intOf]; omega
    · obtain rfl : k = 0 := by omega
      have hm5 : m ≤ 6 := by omega
      go_wp2_with fail
      refine (odd0_any B _ n _ hR (by omega) hn hn1).mono ?_; rintro e w3 ⟨b, rfl, h3, hx3⟩
      have hO3 := hO.extK hx3 hBw
      have hX3 := hX.trans hx3
      cases b
      · go_wp2_with fail
        go_ret
        exact ⟨xs, _, cp, (by rw [HM.out]; rfl), (by rw [HM.out]; omega), hO3, h3.mono (by omega), hX3⟩
      · go_wp2_with fail
        refine (pick_any B _ 2 _ h3 (by omega) (by omega) (by omega)).mono ?_; rintro e w4 ⟨j, rfl, j0, j1, h4, hx4⟩
        have hO4 := hO3.extK hx4 hBw
        have hX4 := hX3.trans hx4
        have hz4 := hX4.size
        by_cases c : j = 0
        · subst c
          go_wp2_with (at_make; refine wpList_make_structs _ encNum (0 : Int) rfl _ _ 23 rfl 3 i0 _ Try.underlying23 HI.out.1 HI.out.2.1 HI.out.2.2.1 rfl .i64 .i64 7 rfl rfl (by rw [HI.out.2.2.2]; omega) (by omega) ?_)
          go_ret
          exact ⟨List.replicate 7 (0 : Int), _, 7, by simp, by simp, SOwn.of_blk (E := encNum) (blk_new w4 _) hz4 (by simp) (by unfold maxLen; omega), (h4.alloc _).mono (by omega), hX4.alloc _⟩
        · have e0 : (j == 0) = false := by rw [beq_eq_false_iff_ne]; omega
          clear c
          obtain ⟨hcp, _⟩ := hO4.cap
          rw [HM.out] at hcp
          by_cases hm0 : m = 0
          · subst hm0
            have HYL : Hid (([] : List Int).length = 0) := by show _ = _; rfl
            go_wp2_with fail
            have hR_0 := h4.drw
            have hO_0 := hO4.drew
            have hX_0 := hX4.drw
            refine wp_region_held_drew (S := (fun _ => True)) (by kernel_rfl) trivial (fun hHeld => ?_)
            clear hHeld
            refine wpAnyH_take (i := 1) (oi := _) (v := ?_) rfl (by kernel_rfl) (by kernel_rfl) (by kernel_rfl) (fun _ _ _ h => h) (Or.inl ⟨by rfl, ?_⟩) trivial ?_
            (rotate_left); (focus (intro wv hSw; clear hSw; go_simp; (try with_reducible rfl)))
            try simp only [Act.put, List.getElem_toArray, List.getElem_cons_succ, List.getElem_cons_zero, List.setIfInBounds_toArray, List.set_cons_zero, List.set_cons_succ]
            refine wpAnyH_take (i := 6) (oi := _) (v := ?_) rfl (by kernel_rfl) (by kernel_rfl) (by kernel_rfl) (fun _ _ _ h => h) (Or.inl ⟨by rfl, ?_⟩) trivial ?_
            (rotate_left); (focus (intro wv hSw; clear hSw; go_simp; (try with_reducible rfl)))
            try simp only [Act.put, List.getElem_toArray, List.getElem_cons_succ, List.getElem_cons_zero, List.setIfInBounds_toArray, List.set_cons_zero, List.set_cons_succ]
            refine wpAnyH_take (i := 7) (oi := _) (v := ?_) rfl (by kernel_rfl) (by kernel_rfl) (by kernel_rfl) (fun _ _ _ h => h) (Or.inl ⟨by rfl, ?_⟩) trivial ?_
            (rotate_left); (focus (intro wv hSw; clear hSw; go_simp; (try with_reducible rfl)))
            try simp only [Act.put, List.getElem_toArray, List.getElem_cons_succ, List.getElem_cons_zero, List.setIfInBounds_toArray, List.set_cons_zero, List.set_cons_succ]
            refine wpAnyH_take (i := 8) (oi := _) (v := ?_) rfl (by kernel_rfl) (by kernel_rfl) (by kernel_rfl) (fun _ _ _ h => h) (Or.inl ⟨by rfl, ?_⟩) trivial ?_
            (rotate_left); (focus (intro wv hSw; clear hSw; go_simp; (try with_reducible rfl)))
            try simp only [Act.put, List.getElem_toArray, List.getElem_cons_succ, List.getElem_cons_zero, List.setIfInBounds_toArray, List.set_cons_zero, List.set_cons_succ]
            refine wpAnyH_take (i := 9) (oi := _) (v := ?_) rfl (by kernel_rfl) (by kernel_rfl) (by kernel_rfl) (fun _ _ _ h => h) (Or.inl ⟨by rfl, ?_⟩) trivial ?_
            (rotate_left); (focus (intro wv hSw; clear hSw; go_simp; (try with_reducible rfl)))
            try simp only [Act.put, List.getElem_toArray, List.getElem_cons_succ, List.getElem_cons_zero, List.setIfInBounds_toArray, List.set_cons_zero, List.set_cons_succ]
            refine wpAnyH_take (i := 10) (oi := _) (v := ?_) rfl (by kernel_rfl) (by kernel_rfl) (by kernel_rfl) (fun _ _ _ h => h) (Or.inl ⟨by rfl, ?_⟩) trivial ?_
            (rotate_left); (focus (intro wv hSw; clear hSw; go_simp; (try with_reducible rfl)))
            try simp only [Act.put, List.getElem_toArray, List.getElem_cons_succ, List.getElem_cons_zero, List.setIfInBounds_toArray, List.set_cons_zero, List.set_cons_succ]
            refine wpAnyH_ready (rs := [0, 2]) (by kernel_rfl) (by simp) ?_
            refine AllReadyH.cons (o := _) rfl (fun K hK => ?_) (AllReadyH.cons (o := _) rfl (fun K hK => ?_) AllReadyH.nil)
            · go_simp
              refine hK.out _ _ trivial (fun hHeld => ?_)
              clear hHeld hK K
              try simp only [Act.put, List.getElem_toArray, List.getElem_cons_succ, List.getElem_cons_zero, List.setIfInBounds_toArray, List.set_cons_zero, List.set_cons_succ]
              have hR_1 := hR_0.alloc (.cells #[.int .i64 (-1), .int .i64 17] 3)
              have hO_1 := hO_0.alloc (.cells #[.int .i64 (-1), .int .i64 17] 3)
              have hX_1 := hX_0.alloc (.cells #[.int .i64 (-1), .int .i64 17] 3)
              have hLit0 : (w4.drew.alloc (.cells #[.int .i64 (-1), .int .i64 17] 3)).heap[w4.heap.size]? = some (.cells #[.int .i64 (-1), .int .i64 17] 3) := blk_new w4.drew (.cells #[.int .i64 (-1), .int .i64 17] 3)
              refine wpAnyH_ready (rs := [2]) (by kernel_rfl) (by simp) ?_
              refine AllReadyH.cons (o := _) rfl (fun K hK => ?_) AllReadyH.nil
              go_simp
              (go_at_call 72; refine (pick_any B _ 2 _ hR_1 (by omega) (by omega) (by omega)).mono ?_; rintro e x0 ⟨j2, rfl, j20, j21, hR_c, hxc⟩)
              refine hK.out _ _ trivial (fun hHeld => ?_)
              clear hHeld hK K
              try simp only [Act.put, List.getElem_toArray, List.getElem_cons_succ, List.getElem_cons_zero, List.setIfInBounds_toArray, List.set_cons_zero, List.set_cons_succ]
              have hO_c := hO_1.extK hxc hBw
              have hX_c := hX_1.trans hxc
              have hzc := hX_c.size
              have hBc := hR_c.lt
              have hb4 : B < w4.heap.size := h4.lt
              have hLit := blk_ext hLit0 hxc (by omega)
              obtain ⟨l0, l1, _, _, lz⟩ := blk2 hLit
              by_cases c2 : j2 = 0
              · subst c2
                refine wpAnyH_take (i := 3) (oi := _) (v := ?_) rfl (by kernel_rfl) (by kernel_rfl) (by kernel_rfl) (fun _ _ _ h => h) (Or.inl ⟨by rfl, ?_⟩) trivial ?_
                (rotate_left); (focus (intro wv hSw; clear hSw; go_simp; (try with_reducible rfl)))
                try simp only [Act.put, List.getElem_toArray, List.getElem_cons_succ, List.getElem_cons_zero, List.setIfInBounds_toArray, List.set_cons_zero, List.set_cons_succ]
                refine wpAnyH_ready (rs := [4]) (by kernel_rfl) (by simp) ?_
                refine AllReadyH.cons (o := _) rfl (fun K hK => ?_) AllReadyH.nil
                go_simp
                refine hK.out _ _ trivial (fun hHeld => ?_)
                clear hHeld hK K
                try simp only [Act.put, List.getElem_toArray, List.getElem_cons_succ, List.getElem_cons_zero, List.setIfInBounds_toArray, List.set_cons_zero, List.set_cons_succ]
                refine wpAnyH_ready (rs := [5]) (by kernel_rfl) (by simp) ?_
                refine AllReadyH.cons (o := _) rfl (fun K hK => ?_) AllReadyH.nil
                go_simp
                refine hK.out _ _ trivial (fun hHeld => ?_)
                clear hHeld hK K
                try simp only [Act.put, List.getElem_toArray, List.getElem_cons_succ, List.getElem_cons_zero, List.setIfInBounds_toArray, List.set_cons_zero, List.set_cons_succ]
                have hL : SOwn encNum (x0.alloc (.cells (encNum.enc (-1)).toArray 3)) w.heap.size 3 (some ⟨x0.heap.size, 0, none⟩) 1 [(-1)] := SOwn.of_blk (E := encNum) (xs := [(-1)]) (blk_new x0 (.cells (encNum.enc (-1)).toArray 3)) hzc rfl (by unfold maxLen; omega)
                have hO_d := hO_c.alloc (.cells (encNum.enc (-1)).toArray 3)
                have hz1 : w.heap.size ≤ (x0.alloc (.cells (encNum.enc (-1)).toArray 3)).heap.size := by simp; omega
                refine wpAnyH_ready (rs := [11]) (by kernel_rfl) (by simp) ?_
                refine AllReadyH.cons (o := _) rfl (fun K hK => ?_) AllReadyH.nil
                rw [if_pos (by kernel_rfl)]
                refine wp_append_own _ (.tmp 36) (.tmp 41) _ rfl w.heap.size 3 i0 _ 1 8 Try.underlying23 HI.out.1 HI.out.2.1 HI.out.2.2.1 HI.out.2.2.2 rfl (by omega) (.slice (some ⟨x0.heap.size, 0, none⟩) 1 1) 1 (encNum.flat [(-1)]) rfl hL ⟨g, 0, none⟩ 0 cp (encNum.flat ([] : List Int)) rfl (by rw [encNum.flat_len, HYL.out]; rfl) (by intro j u hu; simp [Enc.flat] at hu) (encNum.flat_one _) (by simp only [maxLen]; omega) (by omega) hz1 ?_; intro v9 w9 hown9 hgr9 hnil9
                obtain ⟨A9, cap9, rfl⟩ := own_valK hown9
                refine hK.out _ _ trivial (fun hHeld => ?_)
                clear hHeld hK K
                try simp only [Act.put, List.getElem_toArray, List.getElem_cons_succ, List.getElem_cons_zero, List.setIfInBounds_toArray, List.set_cons_zero, List.set_cons_succ]
                refine wpAnyH_take (i := 12) (oi := _) (v := ?_) rfl (by kernel_rfl) (by kernel_rfl) (by kernel_rfl) (fun _ _ _ h => h) (Or.inl ⟨by rfl, ?_⟩) trivial ?_
                (rotate_left); (focus (intro wv hSw; clear hSw; go_simp; (try with_reducible rfl)))
                try simp only [Act.put, List.getElem_toArray, List.getElem_cons_succ, List.getElem_cons_zero, List.setIfInBounds_toArray, List.set_cons_zero, List.set_cons_succ]
                refine wpAnyH_done (by kernel_rfl) ?_ _
                go_wp2_with fail
                go_ret
                have hne : ∀ k, Value.ownBlock (.slice (some ⟨x0.heap.size, 0, none⟩) 1 1) = some k → B < k := fun k hk => by simp [Value.ownBlock] at hk; omega
                exact ⟨(-1) :: ([] : List Int), A9, cap9, (by simp [HM.out]; try omega), (by simp [HM.out]; try omega), SOwn.of_raw (E := encNum) hown9 (by rw [encNum.flat_cons]; simp [Enc.flat]) (by simp [HM.out]; try omega), ((hR_c.alloc (.cells (encNum.enc (-1)).toArray 3)).farK hgr9 hne).mono (by omega), (hX_c.alloc (.cells (encNum.enc (-1)).toArray 3)).far_grownK hgr9 (fun k hk => by simp [Value.ownBlock] at hk; omega)⟩
              · obtain rfl : j2 = 1 := by omega
                clear c2
                refine wpAnyH_take (i := 3) (oi := _) (v := ?_) rfl (by kernel_rfl) (by kernel_rfl) (by kernel_rfl) (fun _ _ _ h => h) (Or.inl ⟨by rfl, ?_⟩) trivial ?_
                (rotate_left); (focus (intro wv hSw; clear hSw; go_simp; (try with_reducible rfl)))
                try simp only [Act.put, List.getElem_toArray, List.getElem_cons_succ, List.getElem_cons_zero, List.setIfInBounds_toArray, List.set_cons_zero, List.set_cons_succ]
                refine wpAnyH_ready (rs := [4]) (by kernel_rfl) (by simp) ?_
                refine AllReadyH.cons (o := _) rfl (fun K hK => ?_) AllReadyH.nil
                go_simp
                refine hK.out _ _ trivial (fun hHeld => ?_)
                clear hHeld hK K
                try simp only [Act.put, List.getElem_toArray, List.getElem_cons_succ, List.getElem_cons_zero, List.setIfInBounds_toArray, List.set_cons_zero, List.set_cons_succ]
                refine wpAnyH_ready (rs := [5]) (by kernel_rfl) (by simp) ?_
                refine AllReadyH.cons (o := _) rfl (fun K hK => ?_) AllReadyH.nil
                go_simp
                refine hK.out _ _ trivial (fun hHeld => ?_)
                clear hHeld hK K
                try simp only [Act.put, List.getElem_toArray, List.getElem_cons_succ, List.getElem_cons_zero, List.setIfInBounds_toArray, List.set_cons_zero, List.set_cons_succ]
                have hL : SOwn encNum (x0.alloc (.cells (encNum.enc 17).toArray 3)) w.heap.size 3 (some ⟨x0.heap.size, 0, none⟩) 1 [17] := SOwn.of_blk (E := encNum) (xs := [17]) (blk_new x0 (.cells (encNum.enc 17).toArray 3)) hzc rfl (by unfold maxLen; omega)
                have hO_d := hO_c.alloc (.cells (encNum.enc 17).toArray 3)
                have hz1 : w.heap.size ≤ (x0.alloc (.cells (encNum.enc 17).toArray 3)).heap.size := by simp; omega
                refine wpAnyH_ready (rs := [11]) (by kernel_rfl) (by simp) ?_
                refine AllReadyH.cons (o := _) rfl (fun K hK => ?_) AllReadyH.nil
                rw [if_pos (by kernel_rfl)]
                refine wp_append_own _ (.tmp 36) (.tmp 41) _ rfl w.heap.size 3 i0 _ 1 8 Try.underlying23 HI.out.1 HI.out.2.1 HI.out.2.2.1 HI.out.2.2.2 rfl (by omega) (.slice (some ⟨x0.heap.size, 0, none⟩) 1 1) 1 (encNum.flat [17]) rfl hL ⟨g, 0, none⟩ 0 cp (encNum.flat ([] : List Int)) rfl (by rw [encNum.flat_len, HYL.out]; rfl) (by intro j u hu; simp [Enc.flat] at hu) (encNum.flat_one _) (by simp only [maxLen]; omega) (by omega) hz1 ?_; intro v9 w9 hown9 hgr9 hnil9
                obtain ⟨A9, cap9, rfl⟩ := own_valK hown9
                refine hK.out _ _ trivial (fun hHeld => ?_)
                clear hHeld hK K
                try simp only [Act.put, List.getElem_toArray, List.getElem_cons_succ, List.getElem_cons_zero, List.setIfInBounds_toArray, List.set_cons_zero, List.set_cons_succ]
                refine wpAnyH_take (i := 12) (oi := _) (v := ?_) rfl (by kernel_rfl) (by kernel_rfl) (by kernel_rfl) (fun _ _ _ h => h) (Or.inl ⟨by rfl, ?_⟩) trivial ?_
                (rotate_left); (focus (intro wv hSw; clear hSw; go_simp; (try with_reducible rfl)))
                try simp only [Act.put, List.getElem_toArray, List.getElem_cons_succ, List.getElem_cons_zero, List.setIfInBounds_toArray, List.set_cons_zero, List.set_cons_succ]
                refine wpAnyH_done (by kernel_rfl) ?_ _
                go_wp2_with fail
                go_ret
                have hne : ∀ k, Value.ownBlock (.slice (some ⟨x0.heap.size, 0, none⟩) 1 1) = some k → B < k := fun k hk => by simp [Value.ownBlock] at hk; omega
                exact ⟨17 :: ([] : List Int), A9, cap9, (by simp [HM.out]; try omega), (by simp [HM.out]; try omega), SOwn.of_raw (E := encNum) hown9 (by rw [encNum.flat_cons]; simp [Enc.flat]) (by simp [HM.out]; try omega), ((hR_c.alloc (.cells (encNum.enc 17).toArray 3)).farK hgr9 hne).mono (by omega), (hX_c.alloc (.cells (encNum.enc 17).toArray 3)).far_grownK hgr9 (fun k hk => by simp [Value.ownBlock] at hk; omega)⟩
            · go_simp
              (go_at_call 72; refine (pick_any B _ 2 _ hR_0 (by omega) (by omega) (by omega)).mono ?_; rintro e x0 ⟨j2, rfl, j20, j21, hR_1, hxc⟩)
              refine hK.out _ _ trivial (fun hHeld => ?_)
              clear hHeld hK K
              try simp only [Act.put, List.getElem_toArray, List.getElem_cons_succ, List.getElem_cons_zero, List.setIfInBounds_toArray, List.set_cons_zero, List.set_cons_succ]
              have hO_1 := hO_0.extK hxc hBw
              have hX_1 := hX_0.trans hxc
              refine wpAnyH_ready (rs := [0]) (by kernel_rfl) (by simp) ?_
              refine AllReadyH.cons (o := _) rfl (fun K hK => ?_) AllReadyH.nil
              go_simp
              refine hK.out _ _ trivial (fun hHeld => ?_)
              clear hHeld hK K
              try simp only [Act.put, List.getElem_toArray, List.getElem_cons_succ, List.getElem_cons_zero, List.setIfInBounds_toArray, List.set_cons_zero, List.set_cons_succ]
              have hR_c := hR_1.alloc (.cells #[.int .i64 (-1), .int .i64 17] 3)
              have hO_c := hO_1.alloc (.cells #[.int .i64 (-1), .int .i64 17] 3)
              have hX_c := hX_1.alloc (.cells #[.int .i64 (-1), .int .i64 17] 3)
              have hzc := hX_c.size
              have hBc := hR_c.lt
              have hLit := blk_new x0 (.cells #[.int .i64 (-1), .int .i64 17] 3)
              clear hR_1 hO_1 hX_1
              generalize x0.alloc (.cells #[.int .i64 (-1), .int .i64 17] 3) = y0 at hR_c hO_c hX_c hLit hzc hBc ⊢
              obtain ⟨l0, l1, _, _, lz⟩ := blk2 hLit
              by_cases c2 : j2 = 0
              · subst c2
                refine wpAnyH_take (i := 3) (oi := _) (v := ?_) rfl (by kernel_rfl) (by kernel_rfl) (by kernel_rfl) (fun _ _ _ h => h) (Or.inl ⟨by rfl, ?_⟩) trivial ?_
                (rotate_left); (focus (intro wv hSw; clear hSw; go_simp; (try with_reducible rfl)))
                try simp only [Act.put, List.getElem_toArray, List.getElem_cons_succ, List.getElem_cons_zero, List.setIfInBounds_toArray, List.set_cons_zero, List.set_cons_succ]
                refine wpAnyH_ready (rs := [4]) (by kernel_rfl) (by simp) ?_
                refine AllReadyH.cons (o := _) rfl (fun K hK => ?_) AllReadyH.nil
                go_simp
                refine hK.out _ _ trivial (fun hHeld => ?_)
                clear hHeld hK K
                try simp only [Act.put, List.getElem_toArray, List.getElem_cons_succ, List.getElem_cons_zero, List.setIfInBounds_toArray, List.set_cons_zero, List.set_cons_succ]
                refine wpAnyH_ready (rs := [5]) (by kernel_rfl) (by simp) ?_
                refine AllReadyH.cons (o := _) rfl (fun K hK => ?_) AllReadyH.nil
                go_simp
                refine hK.out _ _ trivial (fun hHeld => ?_)
                clear hHeld hK K
                try simp only [Act.put, List.getElem_toArray, List.getElem_cons_succ, List.getElem_cons_zero, List.setIfInBounds_toArray, List.set_cons_zero, List.set_cons_succ]
                have hL : SOwn encNum (y0.alloc (.cells (encNum.enc (-1)).toArray 3)) w.heap.size 3 (some ⟨y0.heap.size, 0, none⟩) 1 [(-1)] := SOwn.of_blk (E := encNum) (xs := [(-1)]) (blk_new y0 (.cells (encNum.enc (-1)).toArray 3)) hzc rfl (by unfold maxLen; omega)
                have hO_d := hO_c.alloc (.cells (encNum.enc (-1)).toArray 3)
                have hz1 : w.heap.size ≤ (y0.alloc (.cells (encNum.enc (-1)).toArray 3)).heap.size := by simp; omega
                refine wpAnyH_ready (rs := [11]) (by kernel_rfl) (by simp) ?_
                refine AllReadyH.cons (o := _) rfl (fun K hK => ?_) AllReadyH.nil
                rw [if_pos (by kernel_rfl)]
                refine wp_append_own _ (.tmp 36) (.tmp 41) _ rfl w.heap.size 3 i0 _ 1 8 Try.underlying23 HI.out.1 HI.out.2.1 HI.out.2.2.1 HI.out.2.2.2 rfl (by omega) (.slice (some ⟨y0.heap.size, 0, none⟩) 1 1) 1 (encNum.flat [(-1)]) rfl hL ⟨g, 0, none⟩ 0 cp (encNum.flat ([] : List Int)) rfl (by rw [encNum.flat_len, HYL.out]; rfl) (by intro j u hu; simp [Enc.flat] at hu) (encNum.flat_one _) (by simp only [maxLen]; omega) (by omega) hz1 ?_; intro v9 w9 hown9 hgr9 hnil9
                obtain ⟨A9, cap9, rfl⟩ := own_valK hown9
                refine hK.out _ _ trivial (fun hHeld => ?_)
                clear hHeld hK K
                try simp only [Act.put, List.getElem_toArray, List.getElem_cons_succ, List.getElem_cons_zero, List.setIfInBounds_toArray, List.set_cons_zero, List.set_cons_succ]
                refine wpAnyH_take (i := 12) (oi := _) (v := ?_) rfl (by kernel_rfl) (by kernel_rfl) (by kernel_rfl) (fun _ _ _ h => h) (Or.inl ⟨by rfl, ?_⟩) trivial ?_
                (rotate_left); (focus (intro wv hSw; clear hSw; go_simp; (try with_reducible rfl)))
                try simp only [Act.put, List.getElem_toArray, List.getElem_cons_succ, List.getElem_cons_zero, List.setIfInBounds_toArray, List.set_cons_zero, List.set_cons_succ]
                refine wpAnyH_done (by kernel_rfl) ?_ _
                go_wp2_with fail
                go_ret
                have hne : ∀ k, Value.ownBlock (.slice (some ⟨y0.heap.size, 0, none⟩) 1 1) = some k → B < k := fun k hk => by simp [Value.ownBlock] at hk; omega
                exact ⟨(-1) :: ([] : List Int), A9, cap9, (by simp [HM.out]; try omega), (by simp [HM.out]; try omega), SOwn.of_raw (E := encNum) hown9 (by rw [encNum.flat_cons]; simp [Enc.flat]) (by simp [HM.out]; try omega), ((hR_c.alloc (.cells (encNum.enc (-1)).toArray 3)).farK hgr9 hne).mono (by omega), (hX_c.alloc (.cells (encNum.enc (-1)).toArray 3)).far_grownK hgr9 (fun k hk => by simp [Value.ownBlock] at hk; omega)⟩
              · obtain rfl : j2 = 1 := by omega
                clear c2
                refine wpAnyH_take (i := 3) (oi := _) (v := ?_) rfl (by kernel_rfl) (by kernel_rfl) (by kernel_rfl) (fun _ _ _ h => h) (Or.inl ⟨by rfl, ?_⟩) trivial ?_
                (rotate_left); (focus (intro wv hSw; clear hSw; go_simp; (try with_reducible rfl)))
                try simp only [Act.put, List.getElem_toArray, List.getElem_cons_succ, List.getElem_cons_zero, List.setIfInBounds_toArray, List.set_cons_zero, List.set_cons_succ]
                refine wpAnyH_ready (rs := [4]) (by kernel_rfl) (by simp) ?_
                refine AllReadyH.cons (o := _) rfl (fun K hK => ?_) AllReadyH.nil
                go_simp
                refine hK.out _ _ trivial (fun hHeld => ?_)
                clear hHeld hK K
                try simp only [Act.put, List.getElem_toArray, List.getElem_cons_succ, List.getElem_cons_zero, List.setIfInBounds_toArray, List.set_cons_zero, List.set_cons_succ]
                refine wpAnyH_ready (rs := [5]) (by kernel_rfl) (by simp) ?_
                refine AllReadyH.cons (o := _) rfl (fun K hK => ?_) AllReadyH.nil
                go_simp
                refine hK.out _ _ trivial (fun hHeld => ?_)
                clear hHeld hK K
                try simp only [Act.put, List.getElem_toArray, List.getElem_cons_succ, List.getElem_cons_zero, List.setIfInBounds_toArray, List.set_cons_zero, List.set_cons_succ]
                have hL : SOwn encNum (y0.alloc (.cells (encNum.enc 17).toArray 3)) w.heap.size 3 (some ⟨y0.heap.size, 0, none⟩) 1 [17] := SOwn.of_blk (E := encNum) (xs := [17]) (blk_new y0 (.cells (encNum.enc 17).toArray 3)) hzc rfl (by unfold maxLen; omega)
                have hO_d := hO_c.alloc (.cells (encNum.enc 17).toArray 3)
                have hz1 : w.heap.size ≤ (y0.alloc (.cells (encNum.enc 17).toArray 3)).heap.size := by simp; omega
                refine wpAnyH_ready (rs := [11]) (by kernel_rfl) (by simp) ?_
                refine AllReadyH.cons (o := _) rfl (fun K hK => ?_) AllReadyH.nil
                rw [if_pos (by kernel_rfl)]
                refine wp_append_own _ (.tmp 36) (.tmp 41) _ rfl w.heap.size 3 i0 _ 1 8 Try.underlying23 HI.out.1 HI.out.2.1 HI.out.2.2.1 HI.out.2.2.2 rfl (by omega) (.slice (some ⟨y0.heap.size, 0, none⟩) 1 1) 1 (encNum.flat [17]) rfl hL ⟨g, 0, none⟩ 0 cp (encNum.flat ([] : List Int)) rfl (by rw [encNum.flat_len, HYL.out]; rfl) (by intro j u hu; simp [Enc.flat] at hu) (encNum.flat_one _) (by simp only [maxLen]; omega) (by omega) hz1 ?_; intro v9 w9 hown9 hgr9 hnil9
                obtain ⟨A9, cap9, rfl⟩ := own_valK hown9
                refine hK.out _ _ trivial (fun hHeld => ?_)
                clear hHeld hK K
                try simp only [Act.put, List.getElem_toArray, List.getElem_cons_succ, List.getElem_cons_zero, List.setIfInBounds_toArray, List.set_cons_zero, List.set_cons_succ]
                refine wpAnyH_take (i := 12) (oi := _) (v := ?_) rfl (by kernel_rfl) (by kernel_rfl) (by kernel_rfl) (fun _ _ _ h => h) (Or.inl ⟨by rfl, ?_⟩) trivial ?_
                (rotate_left); (focus (intro wv hSw; clear hSw; go_simp; (try with_reducible rfl)))
                try simp only [Act.put, List.getElem_toArray, List.getElem_cons_succ, List.getElem_cons_zero, List.setIfInBounds_toArray, List.set_cons_zero, List.set_cons_succ]
                refine wpAnyH_done (by kernel_rfl) ?_ _
                go_wp2_with fail
                go_ret
                have hne : ∀ k, Value.ownBlock (.slice (some ⟨y0.heap.size, 0, none⟩) 1 1) = some k → B < k := fun k hk => by simp [Value.ownBlock] at hk; omega
                exact ⟨17 :: ([] : List Int), A9, cap9, (by simp [HM.out]; try omega), (by simp [HM.out]; try omega), SOwn.of_raw (E := encNum) hown9 (by rw [encNum.flat_cons]; simp [Enc.flat]) (by simp [HM.out]; try omega), ((hR_c.alloc (.cells (encNum.enc 17).toArray 3)).farK hgr9 hne).mono (by omega), (hX_c.alloc (.cells (encNum.enc 17).toArray 3)).far_grownK hgr9 (fun k hk => by simp [Value.ownBlock] at hk; omega)⟩
          · have hm1 : 1 ≤ m := by omega
            have hmi : (1 : Int) ≤ (m : Int) := by omega
            have hml : ¬ (m : Int) < 1 := by omega
            have hmif : (if (m : Int) < 1 then (m : Int) else 1) = 1 := if_neg hml
            by_cases hc : cp = 1
            · obtain rfl : m = 1 := by omega
              have HYL : Hid (([] : List Int).length = 0) := by show _ = _; rfl
              go_wp2_with fail
              have hR_0 := h4.drw
              have hO_0 := hO4.drew
              have hX_0 := hX4.drw
              refine wp_region_held_drew (S := (fun _ => True)) (by kernel_rfl) trivial (fun hHeld => ?_)
              clear hHeld
              refine wpAnyH_take (i := 1) (oi := _) (v := ?_) rfl (by kernel_rfl) (by kernel_rfl) (by kernel_rfl) (fun _ _ _ h => h) (Or.inl ⟨by rfl, ?_⟩) trivial ?_
              (rotate_left); (focus (intro wv hSw; clear hSw; go_simp; (try with_reducible rfl)))
              try simp only [Act.put, List.getElem_toArray, List.getElem_cons_succ, List.getElem_cons_zero, List.setIfInBounds_toArray, List.set_cons_zero, List.set_cons_succ]
              refine wpAnyH_take (i := 6) (oi := _) (v := ?_) rfl (by kernel_rfl) (by kernel_rfl) (by kernel_rfl) (fun _ _ _ h => h) (Or.inl ⟨by rfl, ?_⟩) trivial ?_
              (rotate_left); (focus (intro wv hSw; clear hSw; go_simp; (try with_reducible rfl)))
              try simp only [Act.put, List.getElem_toArray, List.getElem_cons_succ, List.getElem_cons_zero, List.setIfInBounds_toArray, List.set_cons_zero, List.set_cons_succ]
              refine wpAnyH_take (i := 7) (oi := _) (v := ?_) rfl (by kernel_rfl) (by kernel_rfl) (by kernel_rfl) (fun _ _ _ h => h) (Or.inl ⟨by rfl, ?_⟩) trivial ?_
              (rotate_left); (focus (intro wv hSw; clear hSw; go_simp; (try with_reducible rfl)))
              try simp only [Act.put, List.getElem_toArray, List.getElem_cons_succ, List.getElem_cons_zero, List.setIfInBounds_toArray, List.set_cons_zero, List.set_cons_succ]
              refine wpAnyH_take (i := 8) (oi := _) (v := ?_) rfl (by kernel_rfl) (by kernel_rfl) (by kernel_rfl) (fun _ _ _ h => h) (Or.inl ⟨by rfl, ?_⟩) trivial ?_
              (rotate_left); (focus (intro wv hSw; clear hSw; go_simp; (try with_reducible rfl)))
              try simp only [Act.put, List.getElem_toArray, List.getElem_cons_succ, List.getElem_cons_zero, List.setIfInBounds_toArray, List.set_cons_zero, List.set_cons_succ]
              refine wpAnyH_take (i := 9) (oi := _) (v := ?_) rfl (by kernel_rfl) (by kernel_rfl) (by kernel_rfl) (fun _ _ _ h => h) (Or.inl ⟨by rfl, ?_⟩) trivial ?_
              (rotate_left); (focus (intro wv hSw; clear hSw; go_simp; (try with_reducible rfl)))
              try simp only [Act.put, List.getElem_toArray, List.getElem_cons_succ, List.getElem_cons_zero, List.setIfInBounds_toArray, List.set_cons_zero, List.set_cons_succ]
              refine wpAnyH_take (i := 10) (oi := _) (v := ?_) rfl (by kernel_rfl) (by kernel_rfl) (by kernel_rfl) (fun _ _ _ h => h) (Or.inl ⟨by rfl, ?_⟩) trivial ?_
              (rotate_left); (focus (intro wv hSw; clear hSw; go_simp; (try with_reducible rfl)))
              try simp only [Act.put, List.getElem_toArray, List.getElem_cons_succ, List.getElem_cons_zero, List.setIfInBounds_toArray, List.set_cons_zero, List.set_cons_succ]
              refine wpAnyH_ready (rs := [0, 2]) (by kernel_rfl) (by simp) ?_
              refine AllReadyH.cons (o := _) rfl (fun K hK => ?_) (AllReadyH.cons (o := _) rfl (fun K hK => ?_) AllReadyH.nil)
              · go_simp
                refine hK.out _ _ trivial (fun hHeld => ?_)
                clear hHeld hK K
                try simp only [Act.put, List.getElem_toArray, List.getElem_cons_succ, List.getElem_cons_zero, List.setIfInBounds_toArray, List.set_cons_zero, List.set_cons_succ]
                have hR_1 := hR_0.alloc (.cells #[.int .i64 (-1), .int .i64 17] 3)
                have hO_1 := hO_0.alloc (.cells #[.int .i64 (-1), .int .i64 17] 3)
                have hX_1 := hX_0.alloc (.cells #[.int .i64 (-1), .int .i64 17] 3)
                have hLit0 : (w4.drew.alloc (.cells #[.int .i64 (-1), .int .i64 17] 3)).heap[w4.heap.size]? = some (.cells #[.int .i64 (-1), .int .i64 17] 3) := blk_new w4.drew (.cells #[.int .i64 (-1), .int .i64 17] 3)
                refine wpAnyH_ready (rs := [2]) (by kernel_rfl) (by simp) ?_
                refine AllReadyH.cons (o := _) rfl (fun K hK => ?_) AllReadyH.nil
                go_simp
                (go_at_call 72; refine (pick_any B _ 2 _ hR_1 (by omega) (by omega) (by omega)).mono ?_; rintro e x0 ⟨j2, rfl, j20, j21, hR_c, hxc⟩)
                refine hK.out _ _ trivial (fun hHeld => ?_)
                clear hHeld hK K
                try simp only [Act.put, List.getElem_toArray, List.getElem_cons_succ, List.getElem_cons_zero, List.setIfInBounds_toArray, List.set_cons_zero, List.set_cons_succ]
                have hO_c := hO_1.extK hxc hBw
                have hX_c := hX_1.trans hxc
                have hzc := hX_c.size
                have hBc := hR_c.lt
                have hb4 : B < w4.heap.size := h4.lt
                have hLit := blk_ext hLit0 hxc (by omega)
                obtain ⟨l0, l1, _, _, lz⟩ := blk2 hLit
                by_cases c2 : j2 = 0
                · subst c2
                  refine wpAnyH_take (i := 3) (oi := _) (v := ?_) rfl (by kernel_rfl) (by kernel_rfl) (by kernel_rfl) (fun _ _ _ h => h) (Or.inl ⟨by rfl, ?_⟩) trivial ?_
                  (rotate_left); (focus (intro wv hSw; clear hSw; go_simp; (try with_reducible rfl)))
                  try simp only [Act.put, List.getElem_toArray, List.getElem_cons_succ, List.getElem_cons_zero, List.setIfInBounds_toArray, List.set_cons_zero, List.set_cons_succ]
                  refine wpAnyH_ready (rs := [4]) (by kernel_rfl) (by simp) ?_
                  refine AllReadyH.cons (o := _) rfl (fun K hK => ?_) AllReadyH.nil
                  go_simp
                  refine hK.out _ _ trivial (fun hHeld => ?_)
                  clear hHeld hK K
                  try simp only [Act.put, List.getElem_toArray, List.getElem_cons_succ, List.getElem_cons_zero, List.setIfInBounds_toArray, List.set_cons_zero, List.set_cons_succ]
                  refine wpAnyH_ready (rs := [5]) (by kernel_rfl) (by simp) ?_
                  refine AllReadyH.cons (o := _) rfl (fun K hK => ?_) AllReadyH.nil
                  go_simp
                  refine hK.out _ _ trivial (fun hHeld => ?_)
                  clear hHeld hK K
                  try simp only [Act.put, List.getElem_toArray, List.getElem_cons_succ, List.getElem_cons_zero, List.setIfInBounds_toArray, List.set_cons_zero, List.set_cons_succ]
                  have hL : SOwn encNum (x0.alloc (.cells (encNum.enc (-1)).toArray 3)) w.heap.size 3 (some ⟨x0.heap.size, 0, none⟩) 1 [(-1)] := SOwn.of_blk (E := encNum) (xs := [(-1)]) (blk_new x0 (.cells (encNum.enc (-1)).toArray 3)) hzc rfl (by unfold maxLen; omega)
                  have hO_d := hO_c.alloc (.cells (encNum.enc (-1)).toArray 3)
                  have hz1 : w.heap.size ≤ (x0.alloc (.cells (encNum.enc (-1)).toArray 3)).heap.size := by simp; omega
                  refine wpAnyH_ready (rs := [11]) (by kernel_rfl) (by simp) ?_
                  refine AllReadyH.cons (o := _) rfl (fun K hK => ?_) AllReadyH.nil
                  rw [if_pos (by kernel_rfl)]
                  refine wp_append_own _ (.tmp 36) (.tmp 41) _ rfl w.heap.size 3 i0 _ 1 8 Try.underlying23 HI.out.1 HI.out.2.1 HI.out.2.2.1 HI.out.2.2.2 rfl (by omega) (.slice (some ⟨x0.heap.size, 0, none⟩) 1 1) 1 (encNum.flat [(-1)]) rfl hL ⟨g, 0, none⟩ 0 0 (encNum.flat ([] : List Int)) rfl (by rw [encNum.flat_len, HYL.out]; rfl) (by intro j u hu; simp [Enc.flat] at hu) (encNum.flat_one _) (by simp only [maxLen]; omega) (by omega) hz1 ?_; intro v9 w9 hown9 hgr9 hnil9
                  obtain ⟨A9, cap9, rfl⟩ := own_valK hown9
                  refine hK.out _ _ trivial (fun hHeld => ?_)
                  clear hHeld hK K
                  try simp only [Act.put, List.getElem_toArray, List.getElem_cons_succ, List.getElem_cons_zero, List.setIfInBounds_toArray, List.set_cons_zero, List.set_cons_succ]
                  refine wpAnyH_take (i := 12) (oi := _) (v := ?_) rfl (by kernel_rfl) (by kernel_rfl) (by kernel_rfl) (fun _ _ _ h => h) (Or.inl ⟨by rfl, ?_⟩) trivial ?_
                  (rotate_left); (focus (intro wv hSw; clear hSw; go_simp; (try with_reducible rfl)))
                  try simp only [Act.put, List.getElem_toArray, List.getElem_cons_succ, List.getElem_cons_zero, List.setIfInBounds_toArray, List.set_cons_zero, List.set_cons_succ]
                  refine wpAnyH_done (by kernel_rfl) ?_ _
                  go_wp2_with fail
                  go_ret
                  have hne : ∀ k, Value.ownBlock (.slice (some ⟨x0.heap.size, 0, none⟩) 1 1) = some k → B < k := fun k hk => by simp [Value.ownBlock] at hk; omega
                  exact ⟨(-1) :: ([] : List Int), A9, cap9, (by simp [HM.out]; try omega), (by simp [HM.out]; try omega), SOwn.of_raw (E := encNum) hown9 (by rw [encNum.flat_cons]; simp [Enc.flat]) (by simp [HM.out]; try omega), ((hR_c.alloc (.cells (encNum.enc (-1)).toArray 3)).farK hgr9 hne).mono (by omega), (hX_c.alloc (.cells (encNum.enc (-1)).toArray 3)).far_grownK hgr9 (fun k hk => by simp [Value.ownBlock] at hk; omega)⟩
                · obtain rfl : j2 = 1 := by omega
                  clear c2
                  refine wpAnyH_take (i := 3) (oi := _) (v := ?_) rfl (by kernel_rfl) (by kernel_rfl) (by kernel_rfl) (fun _ _ _ h => h) (Or.inl ⟨by rfl, ?_⟩) trivial ?_
                  (rotate_left); (focus (intro wv hSw; clear hSw; go_simp; (try with_reducible rfl)))
                  try simp only [Act.put, List.getElem_toArray, List.getElem_cons_succ, List.getElem_cons_zero, List.setIfInBounds_toArray, List.set_cons_zero, List.set_cons_succ]
                  refine wpAnyH_ready (rs := [4]) (by kernel_rfl) (by simp) ?_
                  refine AllReadyH.cons (o := _) rfl (fun K hK => ?_) AllReadyH.nil
                  go_simp
                  refine hK.out _ _ trivial (fun hHeld => ?_)
                  clear hHeld hK K
                  try simp only [Act.put, List.getElem_toArray, List.getElem_cons_succ, List.getElem_cons_zero, List.setIfInBounds_toArray, List.set_cons_zero, List.set_cons_succ]
                  refine wpAnyH_ready (rs := [5]) (by kernel_rfl) (by simp) ?_
                  refine AllReadyH.cons (o := _) rfl (fun K hK => ?_) AllReadyH.nil
                  go_simp
                  refine hK.out _ _ trivial (fun hHeld => ?_)
                  clear hHeld hK K
                  try simp only [Act.put, List.getElem_toArray, List.getElem_cons_succ, List.getElem_cons_zero, List.setIfInBounds_toArray, List.set_cons_zero, List.set_cons_succ]
                  have hL : SOwn encNum (x0.alloc (.cells (encNum.enc 17).toArray 3)) w.heap.size 3 (some ⟨x0.heap.size, 0, none⟩) 1 [17] := SOwn.of_blk (E := encNum) (xs := [17]) (blk_new x0 (.cells (encNum.enc 17).toArray 3)) hzc rfl (by unfold maxLen; omega)
                  have hO_d := hO_c.alloc (.cells (encNum.enc 17).toArray 3)
                  have hz1 : w.heap.size ≤ (x0.alloc (.cells (encNum.enc 17).toArray 3)).heap.size := by simp; omega
                  refine wpAnyH_ready (rs := [11]) (by kernel_rfl) (by simp) ?_
                  refine AllReadyH.cons (o := _) rfl (fun K hK => ?_) AllReadyH.nil
                  rw [if_pos (by kernel_rfl)]
                  refine wp_append_own _ (.tmp 36) (.tmp 41) _ rfl w.heap.size 3 i0 _ 1 8 Try.underlying23 HI.out.1 HI.out.2.1 HI.out.2.2.1 HI.out.2.2.2 rfl (by omega) (.slice (some ⟨x0.heap.size, 0, none⟩) 1 1) 1 (encNum.flat [17]) rfl hL ⟨g, 0, none⟩ 0 0 (encNum.flat ([] : List Int)) rfl (by rw [encNum.flat_len, HYL.out]; rfl) (by intro j u hu; simp [Enc.flat] at hu) (encNum.flat_one _) (by simp only [maxLen]; omega) (by omega) hz1 ?_; intro v9 w9 hown9 hgr9 hnil9
                  obtain ⟨A9, cap9, rfl⟩ := own_valK hown9
                  refine hK.out _ _ trivial (fun hHeld => ?_)
                  clear hHeld hK K
                  try simp only [Act.put, List.getElem_toArray, List.getElem_cons_succ, List.getElem_cons_zero, List.setIfInBounds_toArray, List.set_cons_zero, List.set_cons_succ]
                  refine wpAnyH_take (i := 12) (oi := _) (v := ?_) rfl (by kernel_rfl) (by kernel_rfl) (by kernel_rfl) (fun _ _ _ h => h) (Or.inl ⟨by rfl, ?_⟩) trivial ?_
                  (rotate_left); (focus (intro wv hSw; clear hSw; go_simp; (try with_reducible rfl)))
                  try simp only [Act.put, List.getElem_toArray, List.getElem_cons_succ, List.getElem_cons_zero, List.setIfInBounds_toArray, List.set_cons_zero, List.set_cons_succ]
                  refine wpAnyH_done (by kernel_rfl) ?_ _
                  go_wp2_with fail
                  go_ret
                  have hne : ∀ k, Value.ownBlock (.slice (some ⟨x0.heap.size, 0, none⟩) 1 1) = some k → B < k := fun k hk => by simp [Value.ownBlock] at hk; omega
                  exact ⟨17 :: ([] : List Int), A9, cap9, (by simp [HM.out]; try omega), (by simp [HM.out]; try omega), SOwn.of_raw (E := encNum) hown9 (by rw [encNum.flat_cons]; simp [Enc.flat]) (by simp [HM.out]; try omega), ((hR_c.alloc (.cells (encNum.enc 17).toArray 3)).farK hgr9 hne).mono (by omega), (hX_c.alloc (.cells (encNum.enc 17).toArray 3)).far_grownK hgr9 (fun k hk => by simp [Value.ownBlock] at hk; omega)⟩
              · go_simp
                (go_at_call 72; refine (pick_any B _ 2 _ hR_0 (by omega) (by omega) (by omega)).mono ?_; rintro e x0 ⟨j2, rfl, j20, j21, hR_1, hxc⟩)
                refine hK.out _ _ trivial (fun hHeld => ?_)
                clear hHeld hK K
                try simp only [Act.put, List.getElem_toArray, List.getElem_cons_succ, List.getElem_cons_zero, List.setIfInBounds_toArray, List.set_cons_zero, List.set_cons_succ]
                have hO_1 := hO_0.extK hxc hBw
                have hX_1 := hX_0.trans hxc
                refine wpAnyH_ready (rs := [0]) (by kernel_rfl) (by simp) ?_
                refine AllReadyH.cons (o := _) rfl (fun K hK => ?_) AllReadyH.nil
                go_simp
                refine hK.out _ _ trivial (fun hHeld => ?_)
                clear hHeld hK K
                try simp only [Act.put, List.getElem_toArray, List.getElem_cons_succ, List.getElem_cons_zero, List.setIfInBounds_toArray, List.set_cons_zero, List.set_cons_succ]
                have hR_c := hR_1.alloc (.cells #[.int .i64 (-1), .int .i64 17] 3)
                have hO_c := hO_1.alloc (.cells #[.int .i64 (-1), .int .i64 17] 3)
                have hX_c := hX_1.alloc (.cells #[.int .i64 (-1), .int .i64 17] 3)
                have hzc := hX_c.size
                have hBc := hR_c.lt
                have hLit := blk_new x0 (.cells #[.int .i64 (-1), .int .i64 17] 3)
                clear hR_1 hO_1 hX_1
                generalize x0.alloc (.cells #[.int .i64 (-1), .int .i64 17] 3) = y0 at hR_c hO_c hX_c hLit hzc hBc ⊢
                obtain ⟨l0, l1, _, _, lz⟩ := blk2 hLit
                by_cases c2 : j2 = 0
                · subst c2
                  refine wpAnyH_take (i := 3) (oi := _) (v := ?_) rfl (by kernel_rfl) (by kernel_rfl) (by kernel_rfl) (fun _ _ _ h => h) (Or.inl ⟨by rfl, ?_⟩) trivial ?_
                  (rotate_left); (focus (intro wv hSw; clear hSw; go_simp; (try with_reducible rfl)))
                  try simp only [Act.put, List.getElem_toArray, List.getElem_cons_succ, List.getElem_cons_zero, List.setIfInBounds_toArray, List.set_cons_zero, List.set_cons_succ]
                  refine wpAnyH_ready (rs := [4]) (by kernel_rfl) (by simp) ?_
                  refine AllReadyH.cons (o := _) rfl (fun K hK => ?_) AllReadyH.nil
                  go_simp
                  refine hK.out _ _ trivial (fun hHeld => ?_)
                  clear hHeld hK K
                  try simp only [Act.put, List.getElem_toArray, List.getElem_cons_succ, List.getElem_cons_zero, List.setIfInBounds_toArray, List.set_cons_zero, List.set_cons_succ]
                  refine wpAnyH_ready (rs := [5]) (by kernel_rfl) (by simp) ?_
                  refine AllReadyH.cons (o := _) rfl (fun K hK => ?_) AllReadyH.nil
                  go_simp
                  refine hK.out _ _ trivial (fun hHeld => ?_)
                  clear hHeld hK K
                  try simp only [Act.put, List.getElem_toArray, List.getElem_cons_succ, List.getElem_cons_zero, List.setIfInBounds_toArray, List.set_cons_zero, List.set_cons_succ]
                  have hL : SOwn encNum (y0.alloc (.cells (encNum.enc (-1)).toArray 3)) w.heap.size 3 (some ⟨y0.heap.size, 0, none⟩) 1 [(-1)] := SOwn.of_blk (E := encNum) (xs := [(-1)]) (blk_new y0 (.cells (encNum.enc (-1)).toArray 3)) hzc rfl (by unfold maxLen; omega)
                  have hO_d := hO_c.alloc (.cells (encNum.enc (-1)).toArray 3)
                  have hz1 : w.heap.size ≤ (y0.alloc (.cells (encNum.enc (-1)).toArray 3)).heap.size := by simp; omega
                  refine wpAnyH_ready (rs := [11]) (by kernel_rfl) (by simp) ?_
                  refine AllReadyH.cons (o := _) rfl (fun K hK => ?_) AllReadyH.nil
                  rw [if_pos (by kernel_rfl)]
                  refine wp_append_own _ (.tmp 36) (.tmp 41) _ rfl w.heap.size 3 i0 _ 1 8 Try.underlying23 HI.out.1 HI.out.2.1 HI.out.2.2.1 HI.out.2.2.2 rfl (by omega) (.slice (some ⟨y0.heap.size, 0, none⟩) 1 1) 1 (encNum.flat [(-1)]) rfl hL ⟨g, 0, none⟩ 0 0 (encNum.flat ([] : List Int)) rfl (by rw [encNum.flat_len, HYL.out]; rfl) (by intro j u hu; simp [Enc.flat] at hu) (encNum.flat_one _) (by simp only [maxLen]; omega) (by omega) hz1 ?_; intro v9 w9 hown9 hgr9 hnil9
                  obtain ⟨A9, cap9, rfl⟩ := own_valK hown9
                  refine hK.out _ _ trivial (fun hHeld => ?_)
                  clear hHeld hK K
                  try simp only [Act.put, List.getElem_toArray, List.getElem_cons_succ, List.getElem_cons_zero, List.setIfInBounds_toArray, List.set_cons_zero, List.set_cons_succ]
                  refine wpAnyH_take (i := 12) (oi := _) (v := ?_) rfl (by kernel_rfl) (by kernel_rfl) (by kernel_rfl) (fun _ _ _ h => h) (Or.inl ⟨by rfl, ?_⟩) trivial ?_
                  (rotate_left); (focus (intro wv hSw; clear hSw; go_simp; (try with_reducible rfl)))
                  try simp only [Act.put, List.getElem_toArray, List.getElem_cons_succ, List.getElem_cons_zero, List.setIfInBounds_toArray, List.set_cons_zero, List.set_cons_succ]
                  refine wpAnyH_done (by kernel_rfl) ?_ _
                  go_wp2_with fail
                  go_ret
                  have hne : ∀ k, Value.ownBlock (.slice (some ⟨y0.heap.size, 0, none⟩) 1 1) = some k → B < k := fun k hk => by simp [Value.ownBlock] at hk; omega
                  exact ⟨(-1) :: ([] : List Int), A9, cap9, (by simp [HM.out]; try omega), (by simp [HM.out]; try omega), SOwn.of_raw (E := encNum) hown9 (by rw [encNum.flat_cons]; simp [Enc.flat]) (by simp [HM.out]; try omega), ((hR_c.alloc (.cells (encNum.enc (-1)).toArray 3)).farK hgr9 hne).mono (by omega), (hX_c.alloc (.cells (encNum.enc (-1)).toArray 3)).far_grownK hgr9 (fun k hk => by simp [Value.ownBlock] at hk; omega)⟩
                · obtain rfl : j2 = 1 := by omega
                  clear c2
                  refine wpAnyH_take (i := 3) (oi := _) (v := ?_) rfl (by kernel_rfl) (by kernel_rfl) (by kernel_rfl) (fun _ _ _ h => h) (Or.inl ⟨by rfl, ?_⟩) trivial ?_
                  (rotate_left); (focus (intro wv hSw; clear hSw; go_simp; (try with_reducible rfl)))
                  try simp only [Act.put, List.getElem_toArray, List.getElem_cons_succ, List.getElem_cons_zero, List.setIfInBounds_toArray, List.set_cons_zero, List.set_cons_succ]
                  refine wpAnyH_ready (rs := [4]) (by kernel_rfl) (by simp) ?_
                  refine AllReadyH.cons (o := _) rfl (fun K hK => ?_) AllReadyH.nil
                  go_simp
                  refine hK.out _ _ trivial (fun hHeld => ?_)
                  clear hHeld hK K
                  try simp only [Act.put, List.getElem_toArray, List.getElem_cons_succ, List.getElem_cons_zero, List.setIfInBounds_toArray, List.set_cons_zero, List.set_cons_succ]
                  refine wpAnyH_ready (rs := [5]) (by kernel_rfl) (by simp) ?_
                  refine AllReadyH.cons (o := _) rfl (fun K hK => ?_) AllReadyH.nil
                  go_simp
                  refine hK.out _ _ trivial (fun hHeld => ?_)
                  clear hHeld hK K
                  try simp only [Act.put, List.getElem_toArray, List.getElem_cons_succ, List.getElem_cons_zero, List.setIfInBounds_toArray, List.set_cons_zero, List.set_cons_succ]
                  have hL : SOwn encNum (y0.alloc (.cells (encNum.enc 17).toArray 3)) w.heap.size 3 (some ⟨y0.heap.size, 0, none⟩) 1 [17] := SOwn.of_blk (E := encNum) (xs := [17]) (blk_new y0 (.cells (encNum.enc 17).toArray 3)) hzc rfl (by unfold maxLen; omega)
                  have hO_d := hO_c.alloc (.cells (encNum.enc 17).toArray 3)
                  have hz1 : w.heap.size ≤ (y0.alloc (.cells (encNum.enc 17).toArray 3)).heap.size := by simp; omega
                  refine wpAnyH_ready (rs := [11]) (by kernel_rfl) (by simp) ?_
                  refine AllReadyH.cons (o := _) rfl (fun K hK => ?_) AllReadyH.nil
                  rw [if_pos (by kernel_rfl)]
                  refine wp_append_own _ (.tmp 36) (.tmp 41) _ rfl w.heap.size 3 i0 _ 1 8 Try.underlying23 HI.out.1 HI.out.2.1 HI.out.2.2.1 HI.out.2.2.2 rfl (by omega) (.slice (some ⟨y0.heap.size, 0, none⟩) 1 1) 1 (encNum.flat [17]) rfl hL ⟨g, 0, none⟩ 0 0 (encNum.flat ([] : List Int)) rfl (by rw [encNum.flat_len, HYL.out]; rfl) (by intro j u hu; simp [Enc.flat] at hu) (encNum.flat_one _) (by simp only [maxLen]; omega) (by omega) hz1 ?_; intro v9 w9 hown9 hgr9 hnil9
                  obtain ⟨A9, cap9, rfl⟩ := own_valK hown9
                  refine hK.out _ _ trivial (fun hHeld => ?_)
                  clear hHeld hK K
                  try simp only [Act.put, List.getElem_toArray, List.getElem_cons_succ, List.getElem_cons_zero, List.setIfInBounds_toArray, List.set_cons_zero, List.set_cons_succ]
                  refine wpAnyH_take (i := 12) (oi := _) (v := ?_) rfl (by kernel_rfl) (by kernel_rfl) (by kernel_rfl) (fun _ _ _ h => h) (Or.inl ⟨by rfl, ?_⟩) trivial ?_
                  (rotate_left); (focus (intro wv hSw; clear hSw; go_simp; (try with_reducible rfl)))
                  try simp only [Act.put, List.getElem_toArray, List.getElem_cons_succ, List.getElem_cons_zero, List.setIfInBounds_toArray, List.set_cons_zero, List.set_cons_succ]
                  refine wpAnyH_done (by kernel_rfl) ?_ _
                  go_wp2_with fail
                  go_ret
                  have hne : ∀ k, Value.ownBlock (.slice (some ⟨y0.heap.size, 0, none⟩) 1 1) = some k → B < k := fun k hk => by simp [Value.ownBlock] at hk; omega
                  exact ⟨17 :: ([] : List Int), A9, cap9, (by simp [HM.out]; try omega), (by simp [HM.out]; try omega), SOwn.of_raw (E := encNum) hown9 (by rw [encNum.flat_cons]; simp [Enc.flat]) (by simp [HM.out]; try omega), ((hR_c.alloc (.cells (encNum.enc 17).toArray 3)).farK hgr9 hne).mono (by omega), (hX_c.alloc (.cells (encNum.enc 17).toArray 3)).far_grownK hgr9 (fun k hk => by simp [Value.ownBlock] at hk; omega)⟩
            · have HYL : Hid ((xs.drop 1).length = m - 1) := by show _ = _; rw [List.length_drop, HM.out]
              go_wp2_with fail
              have hR_0 := h4.drw
              have hO_0 := hO4.drew
              have hX_0 := hX4.drw
              refine wp_region_held_drew (S := (fun _ => True)) (by kernel_rfl) trivial (fun hHeld => ?_)
              clear hHeld
              refine wpAnyH_take (i := 1) (oi := _) (v := ?_) rfl (by kernel_rfl) (by kernel_rfl) (by kernel_rfl) (fun _ _ _ h => h) (Or.inl ⟨by rfl, ?_⟩) trivial ?_
              (rotate_left); (focus (intro wv hSw; clear hSw; go_simp; (try with_reducible rfl)))
              try simp only [Act.put, List.getElem_toArray, List.getElem_cons_succ, List.getElem_cons_zero, List.setIfInBounds_toArray, List.set_cons_zero, List.set_cons_succ]
              refine wpAnyH_take (i := 6) (oi := _) (v := ?_) rfl (by kernel_rfl) (by kernel_rfl) (by kernel_rfl) (fun _ _ _ h => h) (Or.inl ⟨by rfl, ?_⟩) trivial ?_
              (rotate_left); (focus (intro wv hSw; clear hSw; go_simp; (try with_reducible rfl)))
              try simp only [Act.put, List.getElem_toArray, List.getElem_cons_succ, List.getElem_cons_zero, List.setIfInBounds_toArray, List.set_cons_zero, List.set_cons_succ]
              refine wpAnyH_take (i := 7) (oi := _) (v := ?_) rfl (by kernel_rfl) (by kernel_rfl) (by kernel_rfl) (fun _ _ _ h => h) (Or.inl ⟨by rfl, ?_⟩) trivial ?_
              (rotate_left); (focus (intro wv hSw; clear hSw; go_simp; (try with_reducible rfl)))
              try simp only [Act.put, List.getElem_toArray, List.getElem_cons_succ, List.getElem_cons_zero, List.setIfInBounds_toArray, List.set_cons_zero, List.set_cons_succ]
              refine wpAnyH_take (i := 8) (oi := _) (v := ?_) rfl (by kernel_rfl) (by kernel_rfl) (by kernel_rfl) (fun _ _ _ h => h) (Or.inl ⟨by rfl, ?_⟩) trivial ?_
              (rotate_left); (focus (intro wv hSw; clear hSw; go_simp; (try with_reducible rfl)))
              try simp only [Act.put, List.getElem_toArray, List.getElem_cons_succ, List.getElem_cons_zero, List.setIfInBounds_toArray, List.set_cons_zero, List.set_cons_succ]
              refine wpAnyH_take (i := 9) (oi := _) (v := ?_) rfl (by kernel_rfl) (by kernel_rfl) (by kernel_rfl) (fun _ _ _ h => h) (Or.inl ⟨by rfl, ?_⟩) trivial ?_
              (rotate_left); (focus (intro wv hSw; clear hSw; go_simp; (try with_reducible rfl)))
              try simp only [Act.put, List.getElem_toArray, List.getElem_cons_succ, List.getElem_cons_zero, List.setIfInBounds_toArray, List.set_cons_zero, List.set_cons_succ]
              refine wpAnyH_take (i := 10) (oi := _) (v := ?_) rfl (by kernel_rfl) (by kernel_rfl) (by kernel_rfl) (fun _ _ _ h => h) (Or.inl ⟨by rfl, ?_⟩) trivial ?_
              (rotate_left); (focus (intro wv hSw; clear hSw; go_simp; (try with_reducible rfl)))
              try simp only [Act.put, List.getElem_toArray, List.getElem_cons_succ, List.getElem_cons_zero, List.setIfInBounds_toArray, List.set_cons_zero, List.set_cons_succ]
              refine wpAnyH_ready (rs := [0, 2]) (by kernel_rfl) (by simp) ?_
              refine AllReadyH.cons (o := _) rfl (fun K hK => ?_) (AllReadyH.cons (o := _) rfl (fun K hK => ?_) AllReadyH.nil)
              · go_simp
                refine hK.out _ _ trivial (fun hHeld => ?_)
                clear hHeld hK K
                try simp only [Act.put, List.getElem_toArray, List.getElem_cons_succ, List.getElem_cons_zero, List.setIfInBounds_toArray, List.set_cons_zero, List.set_cons_succ]
                have hR_1 := hR_0.alloc (.cells #[.int .i64 (-1), .int .i64 17] 3)
                have hO_1 := hO_0.alloc (.cells #[.int .i64 (-1), .int .i64 17] 3)
                have hX_1 := hX_0.alloc (.cells #[.int .i64 (-1), .int .i64 17] 3)
                have hLit0 : (w4.drew.alloc (.cells #[.int .i64 (-1), .int .i64 17] 3)).heap[w4.heap.size]? = some (.cells #[.int .i64 (-1), .int .i64 17] 3) := blk_new w4.drew (.cells #[.int .i64 (-1), .int .i64 17] 3)
                refine wpAnyH_ready (rs := [2]) (by kernel_rfl) (by simp) ?_
                refine AllReadyH.cons (o := _) rfl (fun K hK => ?_) AllReadyH.nil
                go_simp
                (go_at_call 72; refine (pick_any B _ 2 _ hR_1 (by omega) (by omega) (by omega)).mono ?_; rintro e x0 ⟨j2, rfl, j20, j21, hR_c, hxc⟩)
                refine hK.out _ _ trivial (fun hHeld => ?_)
                clear hHeld hK K
                try simp only [Act.put, List.getElem_toArray, List.getElem_cons_succ, List.getElem_cons_zero, List.setIfInBounds_toArray, List.set_cons_zero, List.set_cons_succ]
                have hO_c := hO_1.extK hxc hBw
                have hX_c := hX_1.trans hxc
                have hzc := hX_c.size
                have hBc := hR_c.lt
                have hb4 : B < w4.heap.size := h4.lt
                have hLit := blk_ext hLit0 hxc (by omega)
                obtain ⟨l0, l1, _, _, lz⟩ := blk2 hLit
                by_cases c2 : j2 = 0
                · subst c2
                  refine wpAnyH_take (i := 3) (oi := _) (v := ?_) rfl (by kernel_rfl) (by kernel_rfl) (by kernel_rfl) (fun _ _ _ h => h) (Or.inl ⟨by rfl, ?_⟩) trivial ?_
                  (rotate_left); (focus (intro wv hSw; clear hSw; go_simp; (try with_reducible rfl)))
                  try simp only [Act.put, List.getElem_toArray, List.getElem_cons_succ, List.getElem_cons_zero, List.setIfInBounds_toArray, List.set_cons_zero, List.set_cons_succ]
                  refine wpAnyH_ready (rs := [4]) (by kernel_rfl) (by simp) ?_
                  refine AllReadyH.cons (o := _) rfl (fun K hK => ?_) AllReadyH.nil
                  go_simp
                  refine hK.out _ _ trivial (fun hHeld => ?_)
                  clear hHeld hK K
                  try simp only [Act.put, List.getElem_toArray, List.getElem_cons_succ, List.getElem_cons_zero, List.setIfInBounds_toArray, List.set_cons_zero, List.set_cons_succ]
                  refine wpAnyH_ready (rs := [5]) (by kernel_rfl) (by simp) ?_
                  refine AllReadyH.cons (o := _) rfl (fun K hK => ?_) AllReadyH.nil
                  go_simp
                  refine hK.out _ _ trivial (fun hHeld => ?_)
                  clear hHeld hK K
                  try simp only [Act.put, List.getElem_toArray, List.getElem_cons_succ, List.getElem_cons_zero, List.setIfInBounds_toArray, List.set_cons_zero, List.set_cons_succ]
                  have hL : SOwn encNum (x0.alloc (.cells (encNum.enc (-1)).toArray 3)) w.heap.size 3 (some ⟨x0.heap.size, 0, none⟩) 1 [(-1)] := SOwn.of_blk (E := encNum) (xs := [(-1)]) (blk_new x0 (.cells (encNum.enc (-1)).toArray 3)) hzc rfl (by unfold maxLen; omega)
                  have hO_d := hO_c.alloc (.cells (encNum.enc (-1)).toArray 3)
                  have hz1 : w.heap.size ≤ (x0.alloc (.cells (encNum.enc (-1)).toArray 3)).heap.size := by simp; omega
                  refine wpAnyH_ready (rs := [11]) (by kernel_rfl) (by simp) ?_
                  refine AllReadyH.cons (o := _) rfl (fun K hK => ?_) AllReadyH.nil
                  rw [if_pos (by kernel_rfl)]
                  refine wp_append_own _ (.tmp 36) (.tmp 41) _ rfl w.heap.size 3 i0 _ 1 8 Try.underlying23 HI.out.1 HI.out.2.1 HI.out.2.2.1 HI.out.2.2.2 rfl (by omega) (.slice (some ⟨x0.heap.size, 0, none⟩) 1 1) 1 (encNum.flat [(-1)]) rfl hL ⟨g, 1, none⟩ (m - 1) (cp - 1) (encNum.flat (xs.drop 1)) rfl (by rw [encNum.flat_len, HYL.out]; rfl) (SRow.newsK (SOwn.tailK hO_d)) (encNum.flat_one _) (by simp only [maxLen]; omega) (by omega) hz1 ?_; intro v9 w9 hown9 hgr9 hnil9
                  obtain ⟨A9, cap9, rfl⟩ := own_valK hown9
                  refine hK.out _ _ trivial (fun hHeld => ?_)
                  clear hHeld hK K
                  try simp only [Act.put, List.getElem_toArray, List.getElem_cons_succ, List.getElem_cons_zero, List.setIfInBounds_toArray, List.set_cons_zero, List.set_cons_succ]
                  refine wpAnyH_take (i := 12) (oi := _) (v := ?_) rfl (by kernel_rfl) (by kernel_rfl) (by kernel_rfl) (fun _ _ _ h => h) (Or.inl ⟨by rfl, ?_⟩) trivial ?_
                  (rotate_left); (focus (intro wv hSw; clear hSw; go_simp; (try with_reducible rfl)))
                  try simp only [Act.put, List.getElem_toArray, List.getElem_cons_succ, List.getElem_cons_zero, List.setIfInBounds_toArray, List.set_cons_zero, List.set_cons_succ]
                  refine wpAnyH_done (by kernel_rfl) ?_ _
                  go_wp2_with fail
                  go_ret
                  have hne : ∀ k, Value.ownBlock (.slice (some ⟨x0.heap.size, 0, none⟩) 1 1) = some k → B < k := fun k hk => by simp [Value.ownBlock] at hk; omega
                  exact ⟨(-1) :: (xs.drop 1), A9, cap9, (by simp [HM.out]; try omega), (by simp [HM.out]; try omega), SOwn.of_raw (E := encNum) hown9 (by rw [encNum.flat_cons]; simp [Enc.flat]) (by simp [HM.out]; try omega), ((hR_c.alloc (.cells (encNum.enc (-1)).toArray 3)).farK hgr9 hne).mono (by omega), (hX_c.alloc (.cells (encNum.enc (-1)).toArray 3)).far_grownK hgr9 (fun k hk => by simp [Value.ownBlock] at hk; omega)⟩
                · obtain rfl : j2 = 1 := by omega
                  clear c2
                  refine wpAnyH_take (i := 3) (oi := _) (v := ?_) rfl (by kernel_rfl) (by kernel_rfl) (by kernel_rfl) (fun _ _ _ h => h) (Or.inl ⟨by rfl, ?_⟩) trivial ?_
                  (rotate_left); (focus (intro wv hSw; clear hSw; go_simp; (try with_reducible rfl)))
                  try simp only [Act.put, List.getElem_toArray, List.getElem_cons_succ, List.getElem_cons_zero, List.setIfInBounds_toArray, List.set_cons_zero, List.set_cons_succ]
                  refine wpAnyH_ready (rs := [4]) (by kernel_rfl) (by simp) ?_
                  refine AllReadyH.cons (o := _) rfl (fun K hK => ?_) AllReadyH.nil
                  go_simp
                  refine hK.out _ _ trivial (fun hHeld => ?_)
                  clear hHeld hK K
                  try simp only [Act.put, List.getElem_toArray, List.getElem_cons_succ, List.getElem_cons_zero, List.setIfInBounds_toArray, List.set_cons_zero, List.set_cons_succ]
                  refine wpAnyH_ready (rs := [5]) (by kernel_rfl) (by simp) ?_
                  refine AllReadyH.cons (o := _) rfl (fun K hK => ?_) AllReadyH.nil
                  go_simp
                  refine hK.out _ _ trivial (fun hHeld => ?_)
                  clear hHeld hK K
                  try simp only [Act.put, List.getElem_toArray, List.getElem_cons_succ, List.getElem_cons_zero, List.setIfInBounds_toArray, List.set_cons_zero, List.set_cons_succ]
                  have hL : SOwn encNum (x0.alloc (.cells (encNum.enc 17).toArray 3)) w.heap.size 3 (some ⟨x0.heap.size, 0, none⟩) 1 [17] := SOwn.of_blk (E := encNum) (xs := [17]) (blk_new x0 (.cells (encNum.enc 17).toArray 3)) hzc rfl (by unfold maxLen; omega)
                  have hO_d := hO_c.alloc (.cells (encNum.enc 17).toArray 3)
                  have hz1 : w.heap.size ≤ (x0.alloc (.cells (encNum.enc 17).toArray 3)).heap.size := by simp; omega
                  refine wpAnyH_ready (rs := [11]) (by kernel_rfl) (by simp) ?_
                  refine AllReadyH.cons (o := _) rfl (fun K hK => ?_) AllReadyH.nil
                  rw [if_pos (by kernel_rfl)]
                  refine wp_append_own _ (.tmp 36) (.tmp 41) _ rfl w.heap.size 3 i0 _ 1 8 Try.underlying23 HI.out.1 HI.out.2.1 HI.out.2.2.1 HI.out.2.2.2 rfl (by omega) (.slice (some ⟨x0.heap.size, 0, none⟩) 1 1) 1 (encNum.flat [17]) rfl hL ⟨g, 1, none⟩ (m - 1) (cp - 1) (encNum.flat (xs.drop 1)) rfl (by rw [encNum.flat_len, HYL.out]; rfl) (SRow.newsK (SOwn.tailK hO_d)) (encNum.flat_one _) (by simp only [maxLen]; omega) (by omega) hz1 ?_; intro v9 w9 hown9 hgr9 hnil9
                  obtain ⟨A9, cap9, rfl⟩ := own_valK hown9
                  refine hK.out _ _ trivial (fun hHeld => ?_)
                  clear hHeld hK K
                  try simp only [Act.put, List.getElem_toArray, List.getElem_cons_succ, List.getElem_cons_zero, List.setIfInBounds_toArray, List.set_cons_zero, List.set_cons_succ]
                  refine wpAnyH_take (i := 12) (oi := _) (v := ?_) rfl (by kernel_rfl) (by kernel_rfl) (by kernel_rfl) (fun _ _ _ h => h) (Or.inl ⟨by rfl, ?_⟩) trivial ?_
                  (rotate_left); (focus (intro wv hSw; clear hSw; go_simp; (try with_reducible rfl)))
                  try simp only [Act.put, List.getElem_toArray, List.getElem_cons_succ, List.getElem_cons_zero, List.setIfInBounds_toArray, List.set_cons_zero, List.set_cons_succ]
                  refine wpAnyH_done (by kernel_rfl) ?_ _
                  go_wp2_with fail
                  go_ret
                  have hne : ∀ k, Value.ownBlock (.slice (some ⟨x0.heap.size, 0, none⟩) 1 1) = some k → B < k := fun k hk => by simp [Value.ownBlock] at hk; omega
                  exact ⟨17 :: (xs.drop 1), A9, cap9, (by simp [HM.out]; try omega), (by simp [HM.out]; try omega), SOwn.of_raw (E := encNum) hown9 (by rw [encNum.flat_cons]; simp [Enc.flat]) (by simp [HM.out]; try omega), ((hR_c.alloc (.cells (encNum.enc 17).toArray 3)).farK hgr9 hne).mono (by omega), (hX_c.alloc (.cells (encNum.enc 17).toArray 3)).far_grownK hgr9 (fun k hk => by simp [Value.ownBlock] at hk; omega)⟩
              · go_simp
                (go_at_call 72; refine (pick_any B _ 2 _ hR_0 (by omega) (by omega) (by omega)).mono ?_; rintro e x0 ⟨j2, rfl, j20, j21, hR_1, hxc⟩)
                refine hK.out _ _ trivial (fun hHeld => ?_)
                clear hHeld hK K
                try simp only [Act.put, List.getElem_toArray, List.getElem_cons_succ, List.getElem_cons_zero, List.setIfInBounds_toArray, List.set_cons_zero, List.set_cons_succ]
                have hO_1 := hO_0.extK hxc hBw
                have hX_1 := hX_0.trans hxc
                refine wpAnyH_ready (rs := [0]) (by kernel_rfl) (by simp) ?_
                refine AllReadyH.cons (o := _) rfl (fun K hK => ?_) AllReadyH.nil
                go_simp
                refine hK.out _ _ trivial (fun hHeld => ?_)
                clear hHeld hK K
                try simp only [Act.put, List.getElem_toArray, List.getElem_cons_succ, List.getElem_cons_zero, List.setIfInBounds_toArray, List.set_cons_zero, List.set_cons_succ]
                have hR_c := hR_1.alloc (.cells #[.int .i64 (-1), .int .i64 17] 3)
                have hO_c := hO_1.alloc (.cells #[.int .i64 (-1), .int .i64 17] 3)
                have hX_c := hX_1.alloc (.cells #[.int .i64 (-1), .int .i64 17] 3)
                have hzc := hX_c.size
                have hBc := hR_c.lt
                have hLit := blk_new x0 (.cells #[.int .i64 (-1), .int .i64 17] 3)
                clear hR_1 hO_1 hX_1
                generalize x0.alloc (.cells #[.int .i64 (-1), .int .i64 17] 3) = y0 at hR_c hO_c hX_c hLit hzc hBc ⊢
                obtain ⟨l0, l1, _, _, lz⟩ := blk2 hLit
                by_cases c2 : j2 = 0
                · subst c2
                  refine wpAnyH_take (i := 3) (oi := _) (v := ?_) rfl (by kernel_rfl) (by kernel_rfl) (by kernel_rfl) (fun _ _ _ h => h) (Or.inl ⟨by rfl, ?_⟩) trivial ?_
                  (rotate_left); (focus (intro wv hSw; clear hSw; go_simp; (try with_reducible rfl)))
                  try simp only [Act.put, List.getElem_toArray, List.getElem_cons_succ, List.getElem_cons_zero, List.setIfInBounds_toArray, List.set_cons_zero, List.set_cons_succ]
                  refine wpAnyH_ready (rs := [4]) (by kernel_rfl) (by simp) ?_
                  refine AllReadyH.cons (o := _) rfl (fun K hK => ?_) AllReadyH.nil
                  go_simp
                  refine hK.out _ _ trivial (fun hHeld => ?_)
                  clear hHeld hK K
                  try simp only [Act.put, List.getElem_toArray, List.getElem_cons_succ, List.getElem_cons_zero, List.setIfInBounds_toArray, List.set_cons_zero, List.set_cons_succ]
                  refine wpAnyH_ready (rs := [5]) (by kernel_rfl) (by simp) ?_
                  refine AllReadyH.cons (o := _) rfl (fun K hK => ?_) AllReadyH.nil
                  go_simp
                  refine hK.out _ _ trivial (fun hHeld => ?_)
                  clear hHeld hK K
                  try simp only [Act.put, List.getElem_toArray, List.getElem_cons_succ, List.getElem_cons_zero, List.setIfInBounds_toArray, List.set_cons_zero, List.set_cons_succ]
                  have hL : SOwn encNum (y0.alloc (.cells (encNum.enc (-1)).toArray 3)) w.heap.size 3 (some ⟨y0.heap.size, 0, none⟩) 1 [(-1)] := SOwn.of_blk (E := encNum) (xs := [(-1)]) (blk_new y0 (.cells (encNum.enc (-1)).toArray 3)) hzc rfl (by unfold maxLen; omega)
                  have hO_d := hO_c.alloc (.cells (encNum.enc (-1)).toArray 3)
                  have hz1 : w.heap.size ≤ (y0.alloc (.cells (encNum.enc (-1)).toArray 3)).heap.size := by simp; omega
                  refine wpAnyH_ready (rs := [11]) (by kernel_rfl) (by simp) ?_
                  refine AllReadyH.cons (o := _) rfl (fun K hK => ?_) AllReadyH.nil
                  rw [if_pos (by kernel_rfl)]
                  refine wp_append_own _ (.tmp 36) (.tmp 41) _ rfl w.heap.size 3 i0 _ 1 8 Try.underlying23 HI.out.1 HI.out.2.1 HI.out.2.2.1 HI.out.2.2.2 rfl (by omega) (.slice (some ⟨y0.heap.size, 0, none⟩) 1 1) 1 (encNum.flat [(-1)]) rfl hL ⟨g, 1, none⟩ (m - 1) (cp - 1) (encNum.flat (xs.drop 1)) rfl (by rw [encNum.flat_len, HYL.out]; rfl) (SRow.newsK (SOwn.tailK hO_d)) (encNum.flat_one _) (by simp only [maxLen]; omega) (by omega) hz1 ?_; intro v9 w9 hown9 hgr9 hnil9
                  obtain ⟨A9, cap9, rfl⟩ := own_valK hown9
                  refine hK.out _ _ trivial (fun hHeld => ?_)
                  clear hHeld hK K
                  try simp only [Act.put, List.getElem_toArray, List.getElem_cons_succ, List.getElem_cons_zero, List.setIfInBounds_toArray, List.set_cons_zero, List.set_cons_succ]
                  refine wpAnyH_take (i := 12) (oi := _) (v := ?_) rfl (by kernel_rfl) (by kernel_rfl) (by kernel_rfl) (fun _ _ _ h => h) (Or.inl ⟨by rfl, ?_⟩) trivial ?_
                  (rotate_left); (focus (intro wv hSw; clear hSw; go_simp; (try with_reducible rfl)))
                  try simp only [Act.put, List.getElem_toArray, List.getElem_cons_succ, List.getElem_cons_zero, List.setIfInBounds_toArray, List.set_cons_zero, List.set_cons_succ]
                  refine wpAnyH_done (by kernel_rfl) ?_ _
                  go_wp2_with fail
                  go_ret
                  have hne : ∀ k, Value.ownBlock (.slice (some ⟨y0.heap.size, 0, none⟩) 1 1) = some k → B < k := fun k hk => by simp [Value.ownBlock] at hk; omega
                  exact ⟨(-1) :: (xs.drop 1), A9, cap9, (by simp [HM.out]; try omega), (by simp [HM.out]; try omega), SOwn.of_raw (E := encNum) hown9 (by rw [encNum.flat_cons]; simp [Enc.flat]) (by simp [HM.out]; try omega), ((hR_c.alloc (.cells (encNum.enc (-1)).toArray 3)).farK hgr9 hne).mono (by omega), (hX_c.alloc (.cells (encNum.enc (-1)).toArray 3)).far_grownK hgr9 (fun k hk => by simp [Value.ownBlock] at hk; omega)⟩
                · obtain rfl : j2 = 1 := by omega
                  clear c2
                  refine wpAnyH_take (i := 3) (oi := _) (v := ?_) rfl (by kernel_rfl) (by kernel_rfl) (by kernel_rfl) (fun _ _ _ h => h) (Or.inl ⟨by rfl, ?_⟩) trivial ?_
                  (rotate_left); (focus (intro wv hSw; clear hSw; go_simp; (try with_reducible rfl)))
                  try simp only [Act.put, List.getElem_toArray, List.getElem_cons_succ, List.getElem_cons_zero, List.setIfInBounds_toArray, List.set_cons_zero, List.set_cons_succ]
                  refine wpAnyH_ready (rs := [4]) (by kernel_rfl) (by simp) ?_
                  refine AllReadyH.cons (o := _) rfl (fun K hK => ?_) AllReadyH.nil
                  go_simp
                  refine hK.out _ _ trivial (fun hHeld => ?_)
                  clear hHeld hK K
                  try simp only [Act.put, List.getElem_toArray, List.getElem_cons_succ, List.getElem_cons_zero, List.setIfInBounds_toArray, List.set_cons_zero, List.set_cons_succ]
                  refine wpAnyH_ready (rs := [5]) (by kernel_rfl) (by simp) ?_
                  refine AllReadyH.cons (o := _) rfl (fun K hK => ?_) AllReadyH.nil
                  go_simp
                  refine hK.out _ _ trivial (fun hHeld => ?_)
                  clear hHeld hK K
                  try simp only [Act.put, List.getElem_toArray, List.getElem_cons_succ, List.getElem_cons_zero, List.setIfInBounds_toArray, List.set_cons_zero, List.set_cons_succ]
                  have hL : SOwn encNum (y0.alloc (.cells (encNum.enc 17).toArray 3)) w.heap.size 3 (some ⟨y0.heap.size, 0, none⟩) 1 [17] := SOwn.of_blk (E := encNum) (xs := [17]) (blk_new y0 (.cells (encNum.enc 17).toArray 3)) hzc rfl (by unfold maxLen; omega)
                  have hO_d := hO_c.alloc (.cells (encNum.enc 17).toArray 3)
                  have hz1 : w.heap.size ≤ (y0.alloc (.cells (encNum.enc 17).toArray 3)).heap.size := by simp; omega
                  refine wpAnyH_ready (rs := [11]) (by kernel_rfl) (by simp) ?_
                  refine AllReadyH.cons (o := _) rfl (fun K hK => ?_) AllReadyH.nil
                  rw [if_pos (by kernel_rfl)]
                  refine wp_append_own _ (.tmp 36) (.tmp 41) _ rfl w.heap.size 3 i0 _ 1 8 Try.underlying23 HI.out.1 HI.out.2.1 HI.out.2.2.1 HI.out.2.2.2 rfl (by omega) (.slice (some ⟨y0.heap.size, 0, none⟩) 1 1) 1 (encNum.flat [17]) rfl hL ⟨g, 1, none⟩ (m - 1) (cp - 1) (encNum.flat (xs.drop 1)) rfl (by rw [encNum.flat_len, HYL.out]; rfl) (SRow.newsK (SOwn.tailK hO_d)) (encNum.flat_one _) (by simp only [maxLen]; omega) (by omega) hz1 ?_; intro v9 w9 hown9 hgr9 hnil9
                  obtain ⟨A9, cap9, rfl⟩ := own_valK hown9
                  refine hK.out _ _ trivial (fun hHeld => ?_)
                  clear hHeld hK K
                  try simp only [Act.put, List.getElem_toArray, List.getElem_cons_succ, List.getElem_cons_zero, List.setIfInBounds_toArray, List.set_cons_zero, List.set_cons_succ]
                  refine wpAnyH_take (i := 12) (oi := _) (v := ?_) rfl (by kernel_rfl) (by kernel_rfl) (by kernel_rfl) (fun _ _ _ h => h) (Or.inl ⟨by rfl, ?_⟩) trivial ?_
                  (rotate_left); (focus (intro wv hSw; clear hSw; go_simp; (try with_reducible rfl)))
                  try simp only [Act.put, List.getElem_toArray, List.getElem_cons_succ, List.getElem_cons_zero, List.setIfInBounds_toArray, List.set_cons_zero, List.set_cons_succ]
                  refine wpAnyH_done (by kernel_rfl) ?_ _
                  go_wp2_with fail
                  go_ret
                  have hne : ∀ k, Value.ownBlock (.slice (some ⟨y0.heap.size, 0, none⟩) 1 1) = some k → B < k := fun k hk => by simp [Value.ownBlock] at hk; omega
                  exact ⟨17 :: (xs.drop 1), A9, cap9, (by simp [HM.out]; try omega), (by simp [HM.out]; try omega), SOwn.of_raw (E := encNum) hown9 (by rw [encNum.flat_cons]; simp [Enc.flat]) (by simp [HM.out]; try omega), ((hR_c.alloc (.cells (encNum.enc 17).toArray 3)).farK hgr9 hne).mono (by omega), (hX_c.alloc (.cells (encNum.enc 17).toArray 3)).far_grownK hgr9 (fun k hk => by simp [Value.ownBlock] at hk; omega)⟩
def PlantsIs (B : Nat) (u : Int) (w : World) (e : Ending) (w' : World) : Prop :=
  ∃ (xs : List VPlant) (A : Option Addr) (cap : Nat), e = .returned (.slice A xs.length cap) ∧ xs.length ≤ 7 ∧ SOwn encPlant w' w.heap.size 39 A cap xs ∧ RdU B u w' ∧ Ext B w w'
set_option maxRecDepth 100000 in
set_option maxHeartbeats 8000000 in
theorem plants_any (B : Nat) (u n : Int) (w : World) (h : RdU B u w) (hu : u ≤ 600000) (hn : 0 ≤ n) (hn1 : n ≤ 1000000) : Calls Try.prog 63 #[.pointer (some ⟨B, 0, none⟩), .int .i64 n] w (PlantsIs B (u + 18) w) := by
  have hBw := h.lt
  obtain ⟨i0, hi0, hz0, hz1, hz2⟩ := info_parts infoPlant
  have HI := Lib.hid (And.intro hi0 (And.intro hz0 (And.intro hz1 hz2)))
  clear hi0 hz0 hz1 hz2
  go_enter Try.func63, Try.ntmps63
  go_wp2_with fail
  refine (pick_any B u 7 _ (h.alloc _) (by omega) (by omega) (by omega)).mono ?_; rintro e w1 ⟨k0, rfl, k00, k01, h1, hx1⟩
  have hO1 := (SOwn.empty (E := encPlant) (blk_new w (.cells #[] 39)) (Nat.le_refl _)).extK hx1 hBw
  have hE1 := ((Ext.refl B w).alloc (.cells #[] 39)).trans hx1
  go_wp2_with fail
  go_loopw [5, 6] (fun vo vk wr => ∃ (k : Int) (xs : List VPlant) (g cp m : Nat), vk = .int .i64 k ∧ vo = .slice (some ⟨g, 0, none⟩) m cp ∧ 0 ≤ k ∧ (m : Int) + k ≤ 6 ∧ Hid (xs.length = m) ∧ SOwn encPlant wr w.heap.size 39 (some ⟨g, 0, none⟩) cp xs ∧ RdU B (u + 1 + 2 * (6 - k)) wr ∧ Ext B w wr) (fun _ vk _ => (intOf vk).toNat)
  case atStart => exact ⟨k0, [], _, 0, 0, rfl, rfl, k00, by omega, (by show _ = _; rfl), hO1, h1.mono (by omega), hE1⟩
  case round =>
    obtain ⟨k, xs, g, cp, m, rfl, rfl, k0', mk, HM, hO, hR, hX⟩ := hrel
    by_cases hk : 0 < k
    · go_wp2_with fail
      refine (pick_any B _ 13 _ hR (by omega) (by omega) (by omega)).mono ?_; rintro e w2 ⟨a, rfl, a0, a1, h2, hx2⟩
      have hO2 := hO.extK hx2 hBw
      have hX2 := hX.trans hx2
      go_wp2_with fail
      refine (pick_any B _ 6 _ h2 (by omega) (by omega) (by omega)).mono ?_; rintro e w3 ⟨c, rfl, c0, c1, h3, hx3⟩
      have hO3 := hO2.extK hx3 hBw
      have hX3 := hX2.trans hx3
      by_cases hac : 16 < a + c
      · have hw9 : IntKind.i64.wrap (a + c) = a + c := IntWalk.i64_in _ (by omega)
        have hif9 : (if (16 : Int) < a + c then (16 : Int) else a + c) = 16 := if_pos hac
        have hz3 := hX3.size
        go_wp2_with (at_builtin; refine wpList_append_lies _ rfl (.tmp 17) (.tmp 25) _ rfl w.heap.size 39 i0 _ 2 16 Try.underlying24 HI.out.1 HI.out.2.1 HI.out.2.2.1 HI.out.2.2.2 rfl (by omega) (.slice (some ⟨g, 0, none⟩) m cp) m (encPlant.flat xs) rfl (by have q := hO3.alloc (.cells (encPlant.enc (a, 16)).toArray 39); unfold SOwn at q; rw [HM.out] at q; exact q) ⟨w3.heap.size, 0, none⟩ 1 1 (encPlant.enc (a, 16)) rfl rfl (new_enc (E := encPlant) w3 (a, 16) _) (encPlant.one _) (by omega) (by simp only [maxLen]; omega) (by omega) (by simp; omega) _ rfl ?_; intro g5 cap5 w7 hown5 hgr5 hat5 hlt5)
        have hne : ∀ k, Value.ownBlock (.slice (some ⟨g, 0, none⟩) m cp) = some k → B < k := fun k hk => by have := SOwn.ge_baseK (hO3.alloc (.cells (encPlant.enc (a, 16)).toArray 39)) k hk; omega
        have hB5 := (h3.alloc (.cells (encPlant.enc (a, 16)).toArray 39)).farK hgr5 hne
        have hE5 := (hX3.alloc (.cells (encPlant.enc (a, 16)).toArray 39)).far_grownK hgr5 (SOwn.ge_baseK (hO3.alloc (.cells (encPlant.enc (a, 16)).toArray 39)))
        go_wp2_with fail
        go_roundw
        case rel => exact ⟨k - 1, xs ++ [(a, 16)], g5, cap5, m + 1, by go_num, rfl, by omega, by push_cast; omega, (by show _ = _; rw [List.length_append, HM.out]; rfl), SOwn.snoc (E := encPlant) (by rw [HM.out]; exact hown5), hB5.mono (by omega), hE5⟩
        case measure => simp [intOf]; omega
      · have hw9 : IntKind.i64.wrap (a + c) = a + c := IntWalk.i64_in _ (by omega)
        have hif9 : (if (16 : Int) < a + c then (16 : Int) else a + c) = a + c := if_neg hac
        have hz3 := hX3.size
        go_wp2_with (at_builtin; refine wpList_append_lies _ rfl (.tmp 17) (.tmp 25) _ rfl w.heap.size 39 i0 _ 2 16 Try.underlying24 HI.out.1 HI.out.2.1 HI.out.2.2.1 HI.out.2.2.2 rfl (by omega) (.slice (some ⟨g, 0, none⟩) m cp) m (encPlant.flat xs) rfl (by have q := hO3.alloc (.cells (encPlant.enc (a, a + c)).toArray 39); unfold SOwn at q; rw [HM.out] at q; exact q) ⟨w3.heap.size, 0, none⟩ 1 1 (encPlant.enc (a, a + c)) rfl rfl (new_enc (E := encPlant) w3 (a, a + c) _) (encPlant.one _) (by omega) (by simp only [maxLen]; omega) (by omega) (by simp; omega) _ rfl ?_; intro g5 cap5 w7 hown5 hgr5 hat5 hlt5)
        have hne : ∀ k, Value.ownBlock (.slice (some ⟨g, 0, none⟩) m cp) = some k → B < k := fun k hk => by have := SOwn.ge_baseK (hO3.alloc (.cells (encPlant.enc (a, a + c)).toArray 39)) k hk; omega
        have hB5 := (h3.alloc (.cells (encPlant.enc (a, a + c)).toArray 39)).farK hgr5 hne
        have hE5 := (hX3.alloc (.cells (encPlant.enc (a, a + c)).toArray 39)).far_grownK hgr5 (SOwn.ge_baseK (hO3.alloc (.cells (encPlant.enc (a, a + c)).toArray 39)))
        go_wp2_with fail
        go_roundw
        case rel => exact ⟨k - 1, xs ++ [(a, a + c)], g5, cap5, m + 1, by go_num, rfl, by omega, by push_cast; omega, (by show _ = _; rw [List.length_append, HM.out]; rfl), SOwn.snoc (E := encPlant) (by rw [HM.out]; exact hown5), hB5.mono (by omega), hE5⟩
        case measure => simp [intOf]; omega
    · obtain rfl : k = 0 := by omega
      have hm5 : m ≤ 6 := by omega
      go_wp2_with fail
      refine (odd0_any B _ n _ hR (by omega) hn hn1).mono ?_; rintro e w3 ⟨b, rfl, h3, hx3⟩
      have hO3 := hO.extK hx3 hBw
      have hX3 := hX.trans hx3
      cases b
      · go_wp2_with fail
        go_ret
        exact ⟨xs, _, cp, (by rw [HM.out]; rfl), (by rw [HM.out]; omega), hO3, h3.mono (by omega), hX3⟩
      · go_wp2_with fail
        refine (pick_any B _ 2 _ h3 (by omega) (by omega) (by omega)).mono ?_; rintro e w4 ⟨j, rfl, j0, j1, h4, hx4⟩
        have hO4 := hO3.extK hx4 hBw
        have hX4 := hX3.trans hx4
        have hz4 := hX4.size
        by_cases c : j = 0
        · subst c
          go_wp2_with (at_make; refine wpList_make_structs _ encPlant (0, 0) rfl _ _ 24 rfl 39 i0 _ Try.underlying24 HI.out.1 HI.out.2.1 HI.out.2.2.1 rfl .i64 .i64 7 rfl rfl (by rw [HI.out.2.2.2]; omega) (by omega) ?_)
          go_ret
          exact ⟨List.replicate 7 (0, 0), _, 7, by simp, by simp, SOwn.of_blk (E := encPlant) (blk_new w4 _) hz4 (by simp) (by unfold maxLen; omega), (h4.alloc _).mono (by omega), hX4.alloc _⟩
        · have e0 : (j == 0) = false := by rw [beq_eq_false_iff_ne]; omega
          obtain rfl : j = 1 := by omega
          clear c
          obtain ⟨hcp, _⟩ := hO4.cap
          rw [HM.out] at hcp
          by_cases hm0 : m = 0
          · subst hm0
            have HYL : Hid (([] : List VPlant).length = 0) := by show _ = _; rfl
            have hL : SOwn encPlant (w4.alloc (.cells (encPlant.enc (4, 3)).toArray 39)) w.heap.size 39 (some ⟨w4.heap.size, 0, none⟩) 1 [(4, 3)] := SOwn.of_blk (E := encPlant) (xs := [(4, 3)]) (blk_new w4 (.cells (encPlant.enc (4, 3)).toArray 39)) hz4 rfl (by unfold maxLen; omega)
            have hO_d := hO4.alloc (.cells (encPlant.enc (4, 3)).toArray 39)
            have hz9 : w.heap.size ≤ (w4.alloc (.cells (encPlant.enc (4, 3)).toArray 39)).heap.size := by simp; omega
            have hB4 := h4.lt
            go_wp2_with (at_builtin; refine wpList_append_own _ rfl (.tmp 35) (.tmp 40) _ rfl w.heap.size 39 i0 _ 2 16 Try.underlying24 HI.out.1 HI.out.2.1 HI.out.2.2.1 HI.out.2.2.2 rfl (by omega) (.slice (some ⟨w4.heap.size, 0, none⟩) 1 1) 1 (encPlant.flat [(4, 3)]) rfl hL ⟨g, 0, none⟩ 0 cp (encPlant.flat ([] : List VPlant)) rfl (by rw [encPlant.flat_len, HYL.out]; rfl) (by intro j u hu; simp [Enc.flat] at hu) (encPlant.flat_one _) (by simp only [maxLen]; omega) (by omega) hz9 ?_; intro v9 w9 hown9 hgr9 hnil9)
            obtain ⟨A9, cap9, rfl⟩ := own_valK hown9
            go_wp2_with fail
            go_ret
            have hne : ∀ k, Value.ownBlock (.slice (some ⟨w4.heap.size, 0, none⟩) 1 1) = some k → B < k := fun k hk => by simp [Value.ownBlock] at hk; omega
            exact ⟨(4, 3) :: ([] : List VPlant), A9, cap9, (by simp [HM.out]; try omega), (by simp [HM.out]; try omega), SOwn.of_raw (E := encPlant) hown9 (by rw [encPlant.flat_cons]; simp [Enc.flat]) (by simp [HM.out]; try omega), ((h4.alloc (.cells (encPlant.enc (4, 3)).toArray 39)).farK hgr9 hne).mono (by omega), (hX4.alloc (.cells (encPlant.enc (4, 3)).toArray 39)).far_grownK hgr9 (fun k hk => by simp [Value.ownBlock] at hk; omega)⟩
          · have hm1 : 1 ≤ m := by omega
            have hmi : (1 : Int) ≤ (m : Int) := by omega
            have hml : ¬ (m : Int) < 1 := by omega
            by_cases hc : cp = 1
            · obtain rfl : m = 1 := by omega
              have HYL : Hid (([] : List VPlant).length = 0) := by show _ = _; rfl
              have hL : SOwn encPlant (w4.alloc (.cells (encPlant.enc (4, 3)).toArray 39)) w.heap.size 39 (some ⟨w4.heap.size, 0, none⟩) 1 [(4, 3)] := SOwn.of_blk (E := encPlant) (xs := [(4, 3)]) (blk_new w4 (.cells (encPlant.enc (4, 3)).toArray 39)) hz4 rfl (by unfold maxLen; omega)
              have hO_d := hO4.alloc (.cells (encPlant.enc (4, 3)).toArray 39)
              have hz9 : w.heap.size ≤ (w4.alloc (.cells (encPlant.enc (4, 3)).toArray 39)).heap.size := by simp; omega
              have hB4 := h4.lt
              go_wp2_with (at_builtin; refine wpList_append_own _ rfl (.tmp 35) (.tmp 40) _ rfl w.heap.size 39 i0 _ 2 16 Try.underlying24 HI.out.1 HI.out.2.1 HI.out.2.2.1 HI.out.2.2.2 rfl (by omega) (.slice (some ⟨w4.heap.size, 0, none⟩) 1 1) 1 (encPlant.flat [(4, 3)]) rfl hL ⟨g, 0, none⟩ 0 0 (encPlant.flat ([] : List VPlant)) rfl (by rw [encPlant.flat_len, HYL.out]; rfl) (by intro j u hu; simp [Enc.flat] at hu) (encPlant.flat_one _) (by simp only [maxLen]; omega) (by omega) hz9 ?_; intro v9 w9 hown9 hgr9 hnil9)
              obtain ⟨A9, cap9, rfl⟩ := own_valK hown9
              go_wp2_with fail
              go_ret
              have hne : ∀ k, Value.ownBlock (.slice (some ⟨w4.heap.size, 0, none⟩) 1 1) = some k → B < k := fun k hk => by simp [Value.ownBlock] at hk; omega
              exact ⟨(4, 3) :: ([] : List VPlant), A9, cap9, (by simp [HM.out]; try omega), (by simp [HM.out]; try omega), SOwn.of_raw (E := encPlant) hown9 (by rw [encPlant.flat_cons]; simp [Enc.flat]) (by simp [HM.out]; try omega), ((h4.alloc (.cells (encPlant.enc (4, 3)).toArray 39)).farK hgr9 hne).mono (by omega), (hX4.alloc (.cells (encPlant.enc (4, 3)).toArray 39)).far_grownK hgr9 (fun k hk => by simp [Value.ownBlock] at hk; omega)⟩
            · have HYL : Hid ((xs.drop 1).length = m - 1) := by show _ = _; rw [List.length_drop, HM.out]
              have hL : SOwn encPlant (w4.alloc (.cells (encPlant.enc (4, 3)).toArray 39)) w.heap.size 39 (some ⟨w4.heap.size, 0, none⟩) 1 [(4, 3)] := SOwn.of_blk (E := encPlant) (xs := [(4, 3)]) (blk_new w4 (.cells (encPlant.enc (4, 3)).toArray 39)) hz4 rfl (by unfold maxLen; omega)
              have hO_d := hO4.alloc (.cells (encPlant.enc (4, 3)).toArray 39)
              have hz9 : w.heap.size ≤ (w4.alloc (.cells (encPlant.enc (4, 3)).toArray 39)).heap.size := by simp; omega
              have hB4 := h4.lt
              go_wp2_with (at_builtin; refine wpList_append_own _ rfl (.tmp 35) (.tmp 40) _ rfl w.heap.size 39 i0 _ 2 16 Try.underlying24 HI.out.1 HI.out.2.1 HI.out.2.2.1 HI.out.2.2.2 rfl (by omega) (.slice (some ⟨w4.heap.size, 0, none⟩) 1 1) 1 (encPlant.flat [(4, 3)]) rfl hL ⟨g, 2, none⟩ (m - 1) (cp - 1) (encPlant.flat (xs.drop 1)) rfl (by rw [encPlant.flat_len, HYL.out]; rfl) (SRow.newsK (SOwn.tailK hO_d)) (encPlant.flat_one _) (by simp only [maxLen]; omega) (by omega) hz9 ?_; intro v9 w9 hown9 hgr9 hnil9)
              obtain ⟨A9, cap9, rfl⟩ := own_valK hown9
              go_wp2_with fail
              go_ret
              have hne : ∀ k, Value.ownBlock (.slice (some ⟨w4.heap.size, 0, none⟩) 1 1) = some k → B < k := fun k hk => by simp [Value.ownBlock] at hk; omega
              exact ⟨(4, 3) :: (xs.drop 1), A9, cap9, (by simp [HM.out]; try omega), (by simp [HM.out]; try omega), SOwn.of_raw (E := encPlant) hown9 (by rw [encPlant.flat_cons]; simp [Enc.flat]) (by simp [HM.out]; try omega), ((h4.alloc (.cells (encPlant.enc (4, 3)).toArray 39)).farK hgr9 hne).mono (by omega), (hX4.alloc (.cells (encPlant.enc (4, 3)).toArray 39)).far_grownK hgr9 (fun k hk => by simp [Value.ownBlock] at hk; omega)⟩
def TakesIs (B : Nat) (u : Int) (w : World) (e : Ending) (w' : World) : Prop :=
  ∃ (xs : List Int) (A : Option Addr) (cap : Nat), e = .returned (.slice A xs.length cap) ∧ xs.length ≤ 14 ∧ SOwn encNum w' w.heap.size 3 A cap xs ∧ RdU B u w' ∧ Ext B w w'
end Go.Proofs.Ytaikodebmkjafaa
