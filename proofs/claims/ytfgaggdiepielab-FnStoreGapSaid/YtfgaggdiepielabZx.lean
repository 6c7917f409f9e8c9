/- Hours that are drawn. -/
import Derived.Test.YtfgaggdiepielabZd
import Derived.Test.YtfgaggdiepielabGHour
namespace Go.Proofs.Ytfgaggdiepielab
open Go Go.ChangeShapes Go.WideShapes Go.ChangeAt Go.RowKit
set_option linter.unusedSimpArgs false
set_option linter.unusedVariables false

def HoursIs (B : Nat) (u : Int) (w : World) (e : Ending) (w' : World) : Prop :=
  ∃ (xs : List VHour) (A : Option Addr) (cap : Nat), e = .returned (.slice A xs.length cap) ∧ xs.length ≤ 11 ∧ SOwn encHour w' w.heap.size 27 A cap xs ∧ RdU B u w' ∧ Ext B w w'
set_option maxRecDepth 100000 in
set_option maxHeartbeats 8000000 in
theorem hours_any (B : Nat) (u n : Int) (w : World) (h : RdU B u w) (hu : u ≤ 600000) (hn : 0 ≤ n) (hn1 : n ≤ 1000000) : Calls Try.prog 37 #[.pointer (some ⟨B, 0, none⟩), .int .i64 n] w (HoursIs B (u + 36) w) := by
  have hBw := h.lt
  obtain ⟨i0, hi0, hz0, hz1, hz2⟩ := info_parts infoHour
  have HI := Lib.hid (And.intro hi0 (And.intro hz0 (And.intro hz1 hz2)))
  clear hi0 hz0 hz1 hz2
  go_enter Try.func37, Try.ntmps37
  go_wp2_with fail
  refine (pick_any B u 11 _ (h.alloc _) (by omega) (by omega) (by omega)).mono ?_; rintro e w1 ⟨k0, rfl, k00, k01, h1, hx1⟩
  have hO1 := (SOwn.empty (E := encHour) (blk_new w (.cells #[] 27)) (Nat.le_refl _)).extK hx1 hBw
  have hE1 := ((Ext.refl B w).alloc (.cells #[] 27)).trans hx1
  go_wp2_with fail
  go_loopw [5, 6] (fun vo vk wr => ∃ (k : Int) (xs : List VHour) (g cp m : Nat), vk = .int .i64 k ∧ vo = .slice (some ⟨g, 0, none⟩) m cp ∧ 0 ≤ k ∧ (m : Int) + k ≤ 10 ∧ Hid (xs.length = m) ∧ SOwn encHour wr w.heap.size 27 (some ⟨g, 0, none⟩) cp xs ∧ RdU B (u + 1 + 3 * (10 - k)) wr ∧ Ext B w wr) (fun _ vk _ => (intOf vk).toNat)
  case atStart => exact ⟨k0, [], _, 0, 0, rfl, rfl, k00, by omega, (by show _ = _; rfl), hO1, h1.mono (by omega), hE1⟩
  case round =>
    obtain ⟨k, xs, g, cp, m, rfl, rfl, k0', mk, HM, hO, hR, hX⟩ := hrel
    by_cases hk : 0 < k
    · go_wp2_with fail
      refine (pick_any B _ 21 _ hR (by omega) (by omega) (by omega)).mono ?_; rintro e w2 ⟨a, rfl, a0, a1, h2, hx2⟩
      have hO2 := hO.extK hx2 hBw
      have hX2 := hX.trans hx2
      go_wp2_with fail
      refine (pick_any B _ 2 _ h2 (by omega) (by omega) (by omega)).mono ?_; rintro e w3 ⟨c, rfl, c0, c1, h3, hx3⟩
      have hO3 := hO2.extK hx3 hBw
      have hX3 := hX2.trans hx3
      have m0 : 0 ≤ a * c := Int.mul_nonneg a0 c0
      have m1 : a * c ≤ 20 * 1 := Int.mul_le_mul (by omega) (by omega) c0 (by omega)
      go_wp2_with fail
      refine (pick_any B _ 21 _ h3 (by omega) (by omega) (by omega)).mono ?_; rintro e w4 ⟨d, rfl, d0, d1, h4, hx4⟩
      have hO4 := hO3.extK hx4 hBw
      have hX4 := hX3.trans hx4
      have hz4 := hX4.size
      go_wp2_with (at_builtin; refine wpList_append_lies _ rfl (.tmp 14) (.tmp 23) _ rfl w.heap.size 27 i0 _ 2 16 Try.underlying23 HI.out.1 HI.out.2.1 HI.out.2.2.1 HI.out.2.2.2 rfl (by omega) (.slice (some ⟨g, 0, none⟩) m cp) m (encHour.flat xs) rfl (by have q := hO4.alloc (.cells (encHour.enc (a * c, d)).toArray 27); unfold SOwn at q; rw [HM.out] at q; exact q) ⟨w4.heap.size, 0, none⟩ 1 1 (encHour.enc (a * c, d)) rfl rfl (new_enc (E := encHour) w4 (a * c, d) _) (encHour.one _) (by omega) (by simp only [maxLen]; omega) (by omega) (by simp; omega) _ rfl ?_; intro g5 cap5 w7 hown5 hgr5 hat5 hlt5)
      have hne : ∀ k, Value.ownBlock (.slice (some ⟨g, 0, none⟩) m cp) = some k → B < k := fun k hk => by have := SOwn.ge_baseK (hO4.alloc (.cells (encHour.enc (a * c, d)).toArray 27)) k hk; omega
      have hB5 := (h4.alloc (.cells (encHour.enc (a * c, d)).toArray 27)).farK hgr5 hne
      have hE5 := (hX4.alloc (.cells (encHour.enc (a * c, d)).toArray 27)).far_grownK hgr5 (SOwn.ge_baseK (hO4.alloc (.cells (encHour.enc (a * c, d)).toArray 27)))
      go_wp2_with fail
      go_roundw
      case rel => exact ⟨k - 1, xs ++ [(a * c, d)], g5, cap5, m + 1, by go_num, rfl, by omega, by push_cast; omega, (by show _ = _; rw [List.length_append, HM.out]; rfl), SOwn.snoc (E := encHour) (by rw [HM.out]; exact hown5), hB5.mono (by omega), hE5⟩
      case measure => simp [intOf]; omega
    · obtain rfl : k = 0 := by omega
      have hm5 : m ≤ 10 := by omega
      go_wp2_with fail
      refine (odd0_any B _ n _ hR (by omega) hn hn1).mono ?_; rintro e w3 ⟨b, rfl, h3, hx3⟩
      have hO3 := hO.extK hx3 hBw
      have hX3 := hX.trans hx3
      cases b
      · go_wp2_with fail
        go_ret
        exact ⟨xs, _, cp, (by rw [HM.out]; rfl), (by rw [HM.out]; omega), hO3, h3.mono (by omega), hX3⟩
      · go_wp2_with fail
        refine (pick_any B _ 2 _ h3 (by omega) (by omega) (by omega)).mono ?_; rintro e w4 ⟨j, rfl, j0, j1, h4, hx4⟩
        have hO4 := hO3.extK hx4 hBw
        have hX4 := hX3.trans hx4
        have hz4 := hX4.size
        by_cases c : j = 0
        · subst c
          go_wp2_with (at_make; refine wpList_make_structs _ encHour (0, 0) rfl _ _ 23 rfl 27 i0 _ Try.underlying23 HI.out.1 HI.out.2.1 HI.out.2.2.1 rfl .i64 .i64 11 rfl rfl (by rw [HI.out.2.2.2]; omega) (by omega) ?_)
          go_ret
          exact ⟨List.replicate 11 (0, 0), _, 11, by simp, by simp, SOwn.of_blk (E := encHour) (blk_new w4 _) hz4 (by simp) (by unfold maxLen; omega), (h4.alloc _).mono (by omega), hX4.alloc _⟩
        · have e0 : (j == 0) = false := by rw [beq_eq_false_iff_ne]; omega
          clear c
          obtain ⟨hcp, _⟩ := hO4.cap
          rw [HM.out] at hcp
          by_cases hm0 : m = 0
          · subst hm0
            have HYL : Hid (([] : List VHour).length = 0) := by show _ = _; rfl
            go_wp2_with fail
            have hR_0 := h4.drw
            have hO_0 := hO4.drew
            have hX_0 := hX4.drw
            refine wp_region_held_drew (S := (fun _ => True)) (by kernel_rfl) trivial (fun hHeld => ?_)
            clear hHeld
            refine wpAnyH_take (i := 1) (oi := _) (v := ?_) rfl (by kernel_rfl) (by kernel_rfl) (by kernel_rfl) (fun _ _ _ h => h) (Or.inl ⟨by rfl, ?_⟩) trivial ?_
            (rotate_left); (focus (intro wv hSw; clear hSw; go_simp; (try with_reducible rfl)))
            try simp only [Act.put, List.getElem_toArray, List.getElem_cons_succ, List.getElem_cons_zero, List.setIfInBounds_toArray, List.set_cons_zero, List.set_cons_succ]
            refine wpAnyH_take (i := 7) (oi := _) (v := ?_) rfl (by kernel_rfl) (by kernel_rfl) (by kernel_rfl) (fun _ _ _ h => h) (Or.inl ⟨by rfl, ?_⟩) trivial ?_
            (rotate_left); (focus (intro wv hSw; clear hSw; go_simp; (try with_reducible rfl)))
            try simp only [Act.put, List.getElem_toArray, List.getElem_cons_succ, List.getElem_cons_zero, List.setIfInBounds_toArray, List.set_cons_zero, List.set_cons_succ]
            refine wpAnyH_take (i := 8) (oi := _) (v := ?_) rfl (by kernel_rfl) (by kernel_rfl) (by kernel_rfl) (fun _ _ _ h => h) (Or.inl ⟨by rfl, ?_⟩) trivial ?_
            (rotate_left); (focus (intro wv hSw; clear hSw; go_simp; (try with_reducible rfl)))
            try simp only [Act.put, List.getElem_toArray, List.getElem_cons_succ, List.getElem_cons_zero, List.setIfInBounds_toArray, List.set_cons_zero, List.set_cons_succ]
            refine wpAnyH_take (i := 9) (oi := _) (v := ?_) rfl (by kernel_rfl) (by kernel_rfl) (by kernel_rfl) (fun _ _ _ h => h) (Or.inl ⟨by rfl, ?_⟩) trivial ?_
            (rotate_left); (focus (intro wv hSw; clear hSw; go_simp; (try with_reducible rfl)))
            try simp only [Act.put, List.getElem_toArray, List.getElem_cons_succ, List.getElem_cons_zero, List.setIfInBounds_toArray, List.set_cons_zero, List.set_cons_succ]
            refine wpAnyH_take (i := 10) (oi := _) (v := ?_) rfl (by kernel_rfl) (by kernel_rfl) (by kernel_rfl) (fun _ _ _ h => h) (Or.inl ⟨by rfl, ?_⟩) trivial ?_
            (rotate_left); (focus (intro wv hSw; clear hSw; go_simp; (try with_reducible rfl)))
            try simp only [Act.put, List.getElem_toArray, List.getElem_cons_succ, List.getElem_cons_zero, List.setIfInBounds_toArray, List.set_cons_zero, List.set_cons_succ]
            refine wpAnyH_take (i := 11) (oi := _) (v := ?_) rfl (by kernel_rfl) (by kernel_rfl) (by kernel_rfl) (fun _ _ _ h => h) (Or.inl ⟨by rfl, ?_⟩) trivial ?_
            (rotate_left); (focus (intro wv hSw; clear hSw; go_simp; (try with_reducible rfl)))
            try simp only [Act.put, List.getElem_toArray, List.getElem_cons_succ, List.getElem_cons_zero, List.setIfInBounds_toArray, List.set_cons_zero, List.set_cons_succ]
            refine wpAnyH_ready (rs := [0, 2]) (by kernel_rfl) (by simp) ?_
            refine AllReadyH.cons (o := _) rfl (fun K hK => ?_) (AllReadyH.cons (o := _) rfl (fun K hK => ?_) AllReadyH.nil)
            · go_simp
              refine hK.out _ _ trivial (fun hHeld => ?_)
              clear hHeld hK K
              try simp only [Act.put, List.getElem_toArray, List.getElem_cons_succ, List.getElem_cons_zero, List.setIfInBounds_toArray, List.set_cons_zero, List.set_cons_succ]
              have hR_1 := hR_0.alloc (.cells #[.int .i64 (-1), .int .i64 21] 3)
              have hO_1 := hO_0.alloc (.cells #[.int .i64 (-1), .int .i64 21] 3)
              have hX_1 := hX_0.alloc (.cells #[.int .i64 (-1), .int .i64 21] 3)
              have hLit0 : (w4.drew.alloc (.cells #[.int .i64 (-1), .int .i64 21] 3)).heap[w4.heap.size]? = some (.cells #[.int .i64 (-1), .int .i64 21] 3) := blk_new w4.drew (.cells #[.int .i64 (-1), .int .i64 21] 3)
              refine wpAnyH_ready (rs := [2]) (by kernel_rfl) (by simp) ?_
              refine AllReadyH.cons (o := _) rfl (fun K hK => ?_) AllReadyH.nil
              go_simp
              (go_at_call 52; refine (pick_any B _ 2 _ hR_1 (by omega) (by omega) (by omega)).mono ?_; rintro e x0 ⟨j2, rfl, j20, j21, hR_c, hxc⟩)
              refine hK.out _ _ trivial (fun hHeld => ?_)
              clear hHeld hK K
              try simp only [Act.put, List.getElem_toArray, List.getElem_cons_succ, List.getElem_cons_zero, List.setIfInBounds_toArray, List.set_cons_zero, List.set_cons_succ]
              have hO_c := hO_1.extK hxc hBw
              have hX_c := hX_1.trans hxc
              have hzc := hX_c.size
              have hBc := hR_c.lt
              have hb4 : B < w4.heap.size := h4.lt
              have hLit := blk_ext hLit0 hxc (by omega)
              obtain ⟨l0, l1, _, _, lz⟩ := blk2 hLit
              by_cases c2 : j2 = 0
              · subst c2
                refine wpAnyH_take (i := 3) (oi := _) (v := ?_) rfl (by kernel_rfl) (by kernel_rfl) (by kernel_rfl) (fun _ _ _ h => h) (Or.inl ⟨by rfl, ?_⟩) trivial ?_
                (rotate_left); (focus (intro wv hSw; clear hSw; go_simp; (try with_reducible rfl)))
                try simp only [Act.put, List.getElem_toArray, List.getElem_cons_succ, List.getElem_cons_zero, List.setIfInBounds_toArray, List.set_cons_zero, List.set_cons_succ]
                refine wpAnyH_ready (rs := [4]) (by kernel_rfl) (by simp) ?_
                refine AllReadyH.cons (o := _) rfl (fun K hK => ?_) AllReadyH.nil
                go_simp
                refine hK.out _ _ trivial (fun hHeld => ?_)
                clear hHeld hK K
                try simp only [Act.put, List.getElem_toArray, List.getElem_cons_succ, List.getElem_cons_zero, List.setIfInBounds_toArray, List.set_cons_zero, List.set_cons_succ]
                refine wpAnyH_take (i := 5) (oi := _) (v := ?_) rfl (by kernel_rfl) (by kernel_rfl) (by kernel_rfl) (fun _ _ _ h => h) (Or.inl ⟨by rfl, ?_⟩) trivial ?_
                (rotate_left); (focus (intro wv hSw; clear hSw; go_simp; (try with_reducible rfl)))
                try simp only [Act.put, List.getElem_toArray, List.getElem_cons_succ, List.getElem_cons_zero, List.setIfInBounds_toArray, List.set_cons_zero, List.set_cons_succ]
                refine wpAnyH_ready (rs := [6]) (by kernel_rfl) (by simp) ?_
                refine AllReadyH.cons (o := _) rfl (fun K hK => ?_) AllReadyH.nil
                go_simp
                refine hK.out _ _ trivial (fun hHeld => ?_)
                clear hHeld hK K
                try simp only [Act.put, List.getElem_toArray, List.getElem_cons_succ, List.getElem_cons_zero, List.setIfInBounds_toArray, List.set_cons_zero, List.set_cons_succ]
                have hL : SOwn encHour (x0.alloc (.cells (encHour.enc ((-1), 0)).toArray 27)) w.heap.size 27 (some ⟨x0.heap.size, 0, none⟩) 1 [((-1), 0)] := SOwn.of_blk (E := encHour) (xs := [((-1), 0)]) (blk_new x0 (.cells (encHour.enc ((-1), 0)).toArray 27)) hzc rfl (by unfold maxLen; omega)
                have hO_d := hO_c.alloc (.cells (encHour.enc ((-1), 0)).toArray 27)
                have hz1 : w.heap.size ≤ (x0.alloc (.cells (encHour.enc ((-1), 0)).toArray 27)).heap.size := by simp; omega
                refine wpAnyH_ready (rs := [12]) (by kernel_rfl) (by simp) ?_
                refine AllReadyH.cons (o := _) rfl (fun K hK => ?_) AllReadyH.nil
                rw [if_pos (by kernel_rfl)]
                refine wp_append_own _ (.tmp 38) (.tmp 43) _ rfl w.heap.size 27 i0 _ 2 16 Try.underlying23 HI.out.1 HI.out.2.1 HI.out.2.2.1 HI.out.2.2.2 rfl (by omega) (.slice (some ⟨x0.heap.size, 0, none⟩) 1 1) 1 (encHour.flat [((-1), 0)]) rfl hL ⟨g, 0, none⟩ 0 cp (encHour.flat ([] : List VHour)) rfl (by rw [encHour.flat_len, HYL.out]; rfl) (by intro j u hu; simp [Enc.flat] at hu) (encHour.flat_one _) (by simp only [maxLen]; omega) (by omega) hz1 ?_; intro v9 w9 hown9 hgr9 hnil9
                obtain ⟨A9, cap9, rfl⟩ := own_valK hown9
                refine hK.out _ _ trivial (fun hHeld => ?_)
                clear hHeld hK K
                try simp only [Act.put, List.getElem_toArray, List.getElem_cons_succ, List.getElem_cons_zero, List.setIfInBounds_toArray, List.set_cons_zero, List.set_cons_succ]
                refine wpAnyH_take (i := 13) (oi := _) (v := ?_) rfl (by kernel_rfl) (by kernel_rfl) (by kernel_rfl) (fun _ _ _ h => h) (Or.inl ⟨by rfl, ?_⟩) trivial ?_
                (rotate_left); (focus (intro wv hSw; clear hSw; go_simp; (try with_reducible rfl)))
                try simp only [Act.put, List.getElem_toArray, List.getElem_cons_succ, List.getElem_cons_zero, List.setIfInBounds_toArray, List.set_cons_zero, List.set_cons_succ]
                refine wpAnyH_done (by kernel_rfl) ?_ _
                go_wp2_with fail
                go_ret
                have hne : ∀ k, Value.ownBlock (.slice (some ⟨x0.heap.size, 0, none⟩) 1 1) = some k → B < k := fun k hk => by simp [Value.ownBlock] at hk; omega
                exact ⟨((-1), 0) :: ([] : List VHour), A9, cap9, (by simp [HM.out]; try omega), (by simp [HM.out]; try omega), SOwn.of_raw (E := encHour) hown9 (by rw [encHour.flat_cons]; simp [Enc.flat]) (by simp [HM.out]; try omega), ((hR_c.alloc (.cells (encHour.enc ((-1), 0)).toArray 27)).farK hgr9 hne).mono (by omega), (hX_c.alloc (.cells (encHour.enc ((-1), 0)).toArray 27)).far_grownK hgr9 (fun k hk => by simp [Value.ownBlock] at hk; omega)⟩
              · obtain rfl : j2 = 1 := by omega
                clear c2
                refine wpAnyH_take (i := 3) (oi := _) (v := ?_) rfl (by kernel_rfl) (by kernel_rfl) (by kernel_rfl) (fun _ _ _ h => h) (Or.inl ⟨by rfl, ?_⟩) trivial ?_
                (rotate_left); (focus (intro wv hSw; clear hSw; go_simp; (try with_reducible rfl)))
                try simp only [Act.put, List.getElem_toArray, List.getElem_cons_succ, List.getElem_cons_zero, List.setIfInBounds_toArray, List.set_cons_zero, List.set_cons_succ]
                refine wpAnyH_ready (rs := [4]) (by kernel_rfl) (by simp) ?_
                refine AllReadyH.cons (o := _) rfl (fun K hK => ?_) AllReadyH.nil
                go_simp
                refine hK.out _ _ trivial (fun hHeld => ?_)
                clear hHeld hK K
                try simp only [Act.put, List.getElem_toArray, List.getElem_cons_succ, List.getElem_cons_zero, List.setIfInBounds_toArray, List.set_cons_zero, List.set_cons_succ]
                refine wpAnyH_take (i := 5) (oi := _) (v := ?_) rfl (by kernel_rfl) (by kernel_rfl) (by kernel_rfl) (fun _ _ _ h => h) (Or.inl ⟨by rfl, ?_⟩) trivial ?_
                (rotate_left); (focus (intro wv hSw; clear hSw; go_simp; (try with_reducible rfl)))
                try simp only [Act.put, List.getElem_toArray, List.getElem_cons_succ, List.getElem_cons_zero, List.setIfInBounds_toArray, List.set_cons_zero, List.set_cons_succ]
                refine wpAnyH_ready (rs := [6]) (by kernel_rfl) (by simp) ?_
                refine AllReadyH.cons (o := _) rfl (fun K hK => ?_) AllReadyH.nil
                go_simp
                refine hK.out _ _ trivial (fun hHeld => ?_)
                clear hHeld hK K
                try simp only [Act.put, List.getElem_toArray, List.getElem_cons_succ, List.getElem_cons_zero, List.setIfInBounds_toArray, List.set_cons_zero, List.set_cons_succ]
                have hL : SOwn encHour (x0.alloc (.cells (encHour.enc (21, 0)).toArray 27)) w.heap.size 27 (some ⟨x0.heap.size, 0, none⟩) 1 [(21, 0)] := SOwn.of_blk (E := encHour) (xs := [(21, 0)]) (blk_new x0 (.cells (encHour.enc (21, 0)).toArray 27)) hzc rfl (by unfold maxLen; omega)
                have hO_d := hO_c.alloc (.cells (encHour.enc (21, 0)).toArray 27)
                have hz1 : w.heap.size ≤ (x0.alloc (.cells (encHour.enc (21, 0)).toArray 27)).heap.size := by simp; omega
                refine wpAnyH_ready (rs := [12]) (by kernel_rfl) (by simp) ?_
                refine AllReadyH.cons (o := _) rfl (fun K hK => ?_) AllReadyH.nil
                rw [if_pos (by kernel_rfl)]
                refine wp_append_own _ (.tmp 38) (.tmp 43) _ rfl w.heap.size 27 i0 _ 2 16 Try.underlying23 HI.out.1 HI.out.2.1 HI.out.2.2.1 HI.out.2.2.2 rfl (by omega) (.slice (some ⟨x0.heap.size, 0, none⟩) 1 1) 1 (encHour.flat [(21, 0)]) rfl hL ⟨g, 0, none⟩ 0 cp (encHour.flat ([] : List VHour)) rfl (by rw [encHour.flat_len, HYL.out]; rfl) (by intro j u hu; simp [Enc.flat] at hu) (encHour.flat_one _) (by simp only [maxLen]; omega) (by omega) hz1 ?_; intro v9 w9 hown9 hgr9 hnil9
                obtain ⟨A9, cap9, rfl⟩ := own_valK hown9
                refine hK.out _ _ trivial (fun hHeld => ?_)
                clear hHeld hK K
                try simp only [Act.put, List.getElem_toArray, List.getElem_cons_succ, List.getElem_cons_zero, List.setIfInBounds_toArray, List.set_cons_zero, List.set_cons_succ]
                refine wpAnyH_take (i := 13) (oi := _) (v := ?_) rfl (by kernel_rfl) (by kernel_rfl) (by kernel_rfl) (fun _ _ _ h => h) (Or.inl ⟨by rfl, ?_⟩) trivial ?_
                (rotate_left); (focus (intro wv hSw; clear hSw; go_simp; (try with_reducible rfl)))
                try simp only [Act.put, List.getElem_toArray, List.getElem_cons_succ, List.getElem_cons_zero, List.setIfInBounds_toArray, List.set_cons_zero, List.set_cons_succ]
                refine wpAnyH_done (by kernel_rfl) ?_ _
                go_wp2_with fail
                go_ret
                have hne : ∀ k, Value.ownBlock (.slice (some ⟨x0.heap.size, 0, none⟩) 1 1) = some k → B < k := fun k hk => by simp [Value.ownBlock] at hk; omega
                exact ⟨(21, 0) :: ([] : List VHour), A9, cap9, (by simp [HM.out]; try omega), (by simp [HM.out]; try omega), SOwn.of_raw (E := encHour) hown9 (by rw [encHour.flat_cons]; simp [Enc.flat]) (by simp [HM.out]; try omega), ((hR_c.alloc (.cells (encHour.enc (21, 0)).toArray 27)).farK hgr9 hne).mono (by omega), (hX_c.alloc (.cells (encHour.enc (21, 0)).toArray 27)).far_grownK hgr9 (fun k hk => by simp [Value.ownBlock] at hk; omega)⟩
            · go_simp
              (go_at_call 52; refine (pick_any B _ 2 _ hR_0 (by omega) (by omega) (by omega)).mono ?_; rintro e x0 ⟨j2, rfl, j20, j21, hR_1, hxc⟩)
              refine hK.out _ _ trivial (fun hHeld => ?_)
              clear hHeld hK K
              try simp only [Act.put, List.getElem_toArray, List.getElem_cons_succ, List.getElem_cons_zero, List.setIfInBounds_toArray, List.set_cons_zero, List.set_cons_succ]
              have hO_1 := hO_0.extK hxc hBw
              have hX_1 := hX_0.trans hxc
              refine wpAnyH_ready (rs := [0]) (by kernel_rfl) (by simp) ?_
              refine AllReadyH.cons (o := _) rfl (fun K hK => ?_) AllReadyH.nil
              go_simp
              refine hK.out _ _ trivial (fun hHeld => ?_)
              clear hHeld hK K
              try simp only [Act.put, List.getElem_toArray, List.getElem_cons_succ, List.getElem_cons_zero, List.setIfInBounds_toArray, List.set_cons_zero, List.set_cons_succ]
              have hR_c := hR_1.alloc (.cells #[.int .i64 (-1), .int .i64 21] 3)
              have hO_c := hO_1.alloc (.cells #[.int .i64 (-1), .int .i64 21] 3)
              have hX_c := hX_1.alloc (.cells #[.int .i64 (-1), .int .i64 21] 3)
              have hzc := hX_c.size
              have hBc := hR_c.lt
              have hLit := blk_new x0 (.cells #[.int .i64 (-1), .int .i64 21] 3)
              clear hR_1 hO_1 hX_1
              generalize x0.alloc (.cells #[.int .i64 (-1), .int .i64 21] 3) = y0 at hR_c hO_c hX_c hLit hzc hBc ⊢
              obtain ⟨l0, l1, _, _, lz⟩ := blk2 hLit
              by_cases c2 : j2 = 0
              · subst c2
                refine wpAnyH_take (i := 3) (oi := _) (v := ?_) rfl (by kernel_rfl) (by kernel_rfl) (by kernel_rfl) (fun _ _ _ h => h) (Or.inl ⟨by rfl, ?_⟩) trivial ?_
                (rotate_left); (focus (intro wv hSw; clear hSw; go_simp; (try with_reducible rfl)))
                try simp only [Act.put, List.getElem_toArray, List.getElem_cons_succ, List.getElem_cons_zero, List.setIfInBounds_toArray, List.set_cons_zero, List.set_cons_succ]
                refine wpAnyH_ready (rs := [4]) (by kernel_rfl) (by simp) ?_
                refine AllReadyH.cons (o := _) rfl (fun K hK => ?_) AllReadyH.nil
                go_simp
                refine hK.out _ _ trivial (fun hHeld => ?_)
                clear hHeld hK K
                try simp only [Act.put, List.getElem_toArray, List.getElem_cons_succ, List.getElem_cons_zero, List.setIfInBounds_toArray, List.set_cons_zero, List.set_cons_succ]
                refine wpAnyH_take (i := 5) (oi := _) (v := ?_) rfl (by kernel_rfl) (by kernel_rfl) (by kernel_rfl) (fun _ _ _ h => h) (Or.inl ⟨by rfl, ?_⟩) trivial ?_
                (rotate_left); (focus (intro wv hSw; clear hSw; go_simp; (try with_reducible rfl)))
                try simp only [Act.put, List.getElem_toArray, List.getElem_cons_succ, List.getElem_cons_zero, List.setIfInBounds_toArray, List.set_cons_zero, List.set_cons_succ]
                refine wpAnyH_ready (rs := [6]) (by kernel_rfl) (by simp) ?_
                refine AllReadyH.cons (o := _) rfl (fun K hK => ?_) AllReadyH.nil
                go_simp
                refine hK.out _ _ trivial (fun hHeld => ?_)
                clear hHeld hK K
                try simp only [Act.put, List.getElem_toArray, List.getElem_cons_succ, List.getElem_cons_zero, List.setIfInBounds_toArray, List.set_cons_zero, List.set_cons_succ]
                have hL : SOwn encHour (y0.alloc (.cells (encHour.enc ((-1), 0)).toArray 27)) w.heap.size 27 (some ⟨y0.heap.size, 0, none⟩) 1 [((-1), 0)] := SOwn.of_blk (E := encHour) (xs := [((-1), 0)]) (blk_new y0 (.cells (encHour.enc ((-1), 0)).toArray 27)) hzc rfl (by unfold maxLen; omega)
                have hO_d := hO_c.alloc (.cells (encHour.enc ((-1), 0)).toArray 27)
                have hz1 : w.heap.size ≤ (y0.alloc (.cells (encHour.enc ((-1), 0)).toArray 27)).heap.size := by simp; omega
                refine wpAnyH_ready (rs := [12]) (by kernel_rfl) (by simp) ?_
                refine AllReadyH.cons (o := _) rfl (fun K hK => ?_) AllReadyH.nil
                rw [if_pos (by kernel_rfl)]
                refine wp_append_own _ (.tmp 38) (.tmp 43) _ rfl w.heap.size 27 i0 _ 2 16 Try.underlying23 HI.out.1 HI.out.2.1 HI.out.2.2.1 HI.out.2.2.2 rfl (by omega) (.slice (some ⟨y0.heap.size, 0, none⟩) 1 1) 1 (encHour.flat [((-1), 0)]) rfl hL ⟨g, 0, none⟩ 0 cp (encHour.flat ([] : List VHour)) rfl (by rw [encHour.flat_len, HYL.out]; rfl) (by intro j u hu; simp [Enc.flat] at hu) (encHour.flat_one _) (by simp only [maxLen]; omega) (by omega) hz1 ?_; intro v9 w9 hown9 hgr9 hnil9
                obtain ⟨A9, cap9, rfl⟩ := own_valK hown9
                refine hK.out _ _ trivial (fun hHeld => ?_)
                clear hHeld hK K
                try simp only [Act.put, List.getElem_toArray, List.getElem_cons_succ, List.getElem_cons_zero, List.setIfInBounds_toArray, List.set_cons_zero, List.set_cons_succ]
                refine wpAnyH_take (i := 13) (oi := _) (v := ?_) rfl (by kernel_rfl) (by kernel_rfl) (by kernel_rfl) (fun _ _ _ h => h) (Or.inl ⟨by rfl, ?_⟩) trivial ?_
                (rotate_left); (focus (intro wv hSw; clear hSw; go_simp; (try with_reducible rfl)))
                try simp only [Act.put, List.getElem_toArray, List.getElem_cons_succ, List.getElem_cons_zero, List.setIfInBounds_toArray, List.set_cons_zero, List.set_cons_succ]
                refine wpAnyH_done (by kernel_rfl) ?_ _
                go_wp2_with fail
                go_ret
                have hne : ∀ k, Value.ownBlock (.slice (some ⟨y0.heap.size, 0, none⟩) 1 1) = some k → B < k := fun k hk => by simp [Value.ownBlock] at hk; omega
                exact ⟨((-1), 0) :: ([] : List VHour), A9, cap9, (by simp [HM.out]; try omega), (by simp [HM.out]; try omega), SOwn.of_raw (E := encHour) hown9 (by rw [encHour.flat_cons]; simp [Enc.flat]) (by simp [HM.out]; try omega), ((hR_c.alloc (.cells (encHour.enc ((-1), 0)).toArray 27)).farK hgr9 hne).mono (by omega), (hX_c.alloc (.cells (encHour.enc ((-1), 0)).toArray 27)).far_grownK hgr9 (fun k hk => by simp [Value.ownBlock] at hk; omega)⟩
              · obtain rfl : j2 = 1 := by omega
                clear c2
                refine wpAnyH_take (i := 3) (oi := _) (v := ?_) rfl (by kernel_rfl) (by kernel_rfl) (by kernel_rfl) (fun _ _ _ h => h) (Or.inl ⟨by rfl, ?_⟩) trivial ?_
                (rotate_left); (focus (intro wv hSw; clear hSw; go_simp; (try with_reducible rfl)))
                try simp only [Act.put, List.getElem_toArray, List.getElem_cons_succ, List.getElem_cons_zero, List.setIfInBounds_toArray, List.set_cons_zero, List.set_cons_succ]
                refine wpAnyH_ready (rs := [4]) (by kernel_rfl) (by simp) ?_
                refine AllReadyH.cons (o := _) rfl (fun K hK => ?_) AllReadyH.nil
                go_simp
                refine hK.out _ _ trivial (fun hHeld => ?_)
                clear hHeld hK K
                try simp only [Act.put, List.getElem_toArray, List.getElem_cons_succ, List.getElem_cons_zero, List.setIfInBounds_toArray, List.set_cons_zero, List.set_cons_succ]
                refine wpAnyH_take (i := 5) (oi := _) (v := ?_) rfl (by kernel_rfl) (by kernel_rfl) (by kernel_rfl) (fun _ _ _ h => h) (Or.inl ⟨by rfl, ?_⟩) trivial ?_
                (rotate_left); (focus (intro wv hSw; clear hSw; go_simp; (try with_reducible rfl)))
                try simp only [Act.put, List.getElem_toArray, List.getElem_cons_succ, List.getElem_cons_zero, List.setIfInBounds_toArray, List.set_cons_zero, List.set_cons_succ]
                refine wpAnyH_ready (rs := [6]) (by kernel_rfl) (by simp) ?_
                refine AllReadyH.cons (o := _) rfl (fun K hK => ?_) AllReadyH.nil
                go_simp
                refine hK.out _ _ trivial (fun hHeld => ?_)
                clear hHeld hK K
                try simp only [Act.put, List.getElem_toArray, List.getElem_cons_succ, List.getElem_cons_zero, List.setIfInBounds_toArray, List.set_cons_zero, List.set_cons_succ]
                have hL : SOwn encHour (y0.alloc (.cells (encHour.enc (21, 0)).toArray 27)) w.heap.size 27 (some ⟨y0.heap.size, 0, none⟩) 1 [(21, 0)] := SOwn.of_blk (E := encHour) (xs := [(21, 0)]) (blk_new y0 (.cells (encHour.enc (21, 0)).toArray 27)) hzc rfl (by unfold maxLen; omega)
                have hO_d := hO_c.alloc (.cells (encHour.enc (21, 0)).toArray 27)
                have hz1 : w.heap.size ≤ (y0.alloc (.cells (encHour.enc (21, 0)).toArray 27)).heap.size := by simp; omega
                refine wpAnyH_ready (rs := [12]) (by kernel_rfl) (by simp) ?_
                refine AllReadyH.cons (o := _) rfl (fun K hK => ?_) AllReadyH.nil
                rw [if_pos (by kernel_rfl)]
                refine wp_append_own _ (.tmp 38) (.tmp 43) _ rfl w.heap.size 27 i0 _ 2 16 Try.underlying23 HI.out.1 HI.out.2.1 HI.out.2.2.1 HI.out.2.2.2 rfl (by omega) (.slice (some ⟨y0.heap.size, 0, none⟩) 1 1) 1 (encHour.flat [(21, 0)]) rfl hL ⟨g, 0, none⟩ 0 cp (encHour.flat ([] : List VHour)) rfl (by rw [encHour.flat_len, HYL.out]; rfl) (by intro j u hu; simp [Enc.flat] at hu) (encHour.flat_one _) (by simp only [maxLen]; omega) (by omega) hz1 ?_; intro v9 w9 hown9 hgr9 hnil9
                obtain ⟨A9, cap9, rfl⟩ := own_valK hown9
                refine hK.out _ _ trivial (fun hHeld => ?_)
                clear hHeld hK K
                try simp only [Act.put, List.getElem_toArray, List.getElem_cons_succ, List.getElem_cons_zero, List.setIfInBounds_toArray, List.set_cons_zero, List.set_cons_succ]
                refine wpAnyH_take (i := 13) (oi := _) (v := ?_) rfl (by kernel_rfl) (by kernel_rfl) (by kernel_rfl) (fun _ _ _ h => h) (Or.inl ⟨by rfl, ?_⟩) trivial ?_
                (rotate_left); (focus (intro wv hSw; clear hSw; go_simp; (try with_reducible rfl)))
                try simp only [Act.put, List.getElem_toArray, List.getElem_cons_succ, List.getElem_cons_zero, List.setIfInBounds_toArray, List.set_cons_zero, List.set_cons_succ]
                refine wpAnyH_done (by kernel_rfl) ?_ _
                go_wp2_with fail
                go_ret
                have hne : ∀ k, Value.ownBlock (.slice (some ⟨y0.heap.size, 0, none⟩) 1 1) = some k → B < k := fun k hk => by simp [Value.ownBlock] at hk; omega
                exact ⟨(21, 0) :: ([] : List VHour), A9, cap9, (by simp [HM.out]; try omega), (by simp [HM.out]; try omega), SOwn.of_raw (E := encHour) hown9 (by rw [encHour.flat_cons]; simp [Enc.flat]) (by simp [HM.out]; try omega), ((hR_c.alloc (.cells (encHour.enc (21, 0)).toArray 27)).farK hgr9 hne).mono (by omega), (hX_c.alloc (.cells (encHour.enc (21, 0)).toArray 27)).far_grownK hgr9 (fun k hk => by simp [Value.ownBlock] at hk; omega)⟩
          · have hm1 : 1 ≤ m := by omega
            have hmi : (1 : Int) ≤ (m : Int) := by omega
            have hml : ¬ (m : Int) < 1 := by omega
            have hmif : (if (m : Int) < 1 then (m : Int) else 1) = 1 := if_neg hml
            by_cases hc : cp = 1
            · obtain rfl : m = 1 := by omega
              have HYL : Hid (([] : List VHour).length = 0) := by show _ = _; rfl
              go_wp2_with fail
              have hR_0 := h4.drw
              have hO_0 := hO4.drew
              have hX_0 := hX4.drw
              refine wp_region_held_drew (S := (fun _ => True)) (by kernel_rfl) trivial (fun hHeld => ?_)
              clear hHeld
              refine wpAnyH_take (i := 1) (oi := _) (v := ?_) rfl (by kernel_rfl) (by kernel_rfl) (by kernel_rfl) (fun _ _ _ h => h) (Or.inl ⟨by rfl, ?_⟩) trivial ?_
              (rotate_left); (focus (intro wv hSw; clear hSw; go_simp; (try with_reducible rfl)))
              try simp only [Act.put, List.getElem_toArray, List.getElem_cons_succ, List.getElem_cons_zero, List.setIfInBounds_toArray, List.set_cons_zero, List.set_cons_succ]
              refine wpAnyH_take (i := 7) (oi := _) (v := ?_) rfl (by kernel_rfl) (by kernel_rfl) (by kernel_rfl) (fun _ _ _ h => h) (Or.inl ⟨by rfl, ?_⟩) trivial ?_
              (rotate_left); (focus (intro wv hSw; clear hSw; go_simp; (try with_reducible rfl)))
              try simp only [Act.put, List.getElem_toArray, List.getElem_cons_succ, List.getElem_cons_zero, List.setIfInBounds_toArray, List.set_cons_zero, List.set_cons_succ]
              refine wpAnyH_take (i := 8) (oi := _) (v := ?_) rfl (by kernel_rfl) (by kernel_rfl) (by kernel_rfl) (fun _ _ _ h => h) (Or.inl ⟨by rfl, ?_⟩) trivial ?_
              (rotate_left); (focus (intro wv hSw; clear hSw; go_simp; (try with_reducible rfl)))
              try simp only [Act.put, List.getElem_toArray, List.getElem_cons_succ, List.getElem_cons_zero, List.setIfInBounds_toArray, List.set_cons_zero, List.set_cons_succ]
              refine wpAnyH_take (i := 9) (oi := _) (v := ?_) rfl (by kernel_rfl) (by kernel_rfl) (by kernel_rfl) (fun _ _ _ h => h) (Or.inl ⟨by rfl, ?_⟩) trivial ?_
              (rotate_left); (focus (intro wv hSw; clear hSw; go_simp; (try with_reducible rfl)))
              try simp only [Act.put, List.getElem_toArray, List.getElem_cons_succ, List.getElem_cons_zero, List.setIfInBounds_toArray, List.set_cons_zero, List.set_cons_succ]
              refine wpAnyH_take (i := 10) (oi := _) (v := ?_) rfl (by kernel_rfl) (by kernel_rfl) (by kernel_rfl) (fun _ _ _ h => h) (Or.inl ⟨by rfl, ?_⟩) trivial ?_
              (rotate_left); (focus (intro wv hSw; clear hSw; go_simp; (try with_reducible rfl)))
              try simp only [Act.put, List.getElem_toArray, List.getElem_cons_succ, List.getElem_cons_zero, List.setIfInBounds_toArray, List.set_cons_zero, List.set_cons_succ]
              refine wpAnyH_take (i := 11) (oi := _) (v := ?_) rfl (by kernel_rfl) (by kernel_rfl) (by kernel_rfl) (fun _ _ _ h => h) (Or.inl ⟨by rfl, ?_⟩) trivial ?_
              (rotate_left); (focus (intro wv hSw; clear hSw; go_simp; (try with_reducible rfl)))
              try simp only [Act.put, List.getElem_toArray, List.getElem_cons_succ, List.getElem_cons_zero, List.setIfInBounds_toArray, List.set_cons_zero, List.set_cons_succ]
              refine wpAnyH_ready (rs := [0, 2]) (by kernel_rfl) (by simp) ?_
              refine AllReadyH.cons (o := _) rfl (fun K hK => ?_) (AllReadyH.cons (o := _) rfl (fun K hK => ?_) AllReadyH.nil)
              · go_simp
                refine hK.out _ _ trivial (fun hHeld => ?_)
                clear hHeld hK K
                try simp only [Act.put, List.getElem_toArray, List.getElem_cons_succ, List.getElem_cons_zero, List.setIfInBounds_toArray, List.set_cons_zero, List.set_cons_succ]
                have hR_1 := hR_0.alloc (.cells #[.int .i64 (-1), .int .i64 21] 3)
                have hO_1 := hO_0.alloc (.cells #[.int .i64 (-1), .int .i64 21] 3)
                have hX_1 := hX_0.alloc (.cells #[.int .i64 (-1), .int .i64 21] 3)
                have hLit0 : (w4.drew.alloc (.cells #[.int .i64 (-1), .int .i64 21] 3)).heap[w4.heap.size]? = some (.cells #[.int .i64 (-1), .int .i64 21] 3) := blk_new w4.drew (.cells #[.int .i64 (-1), .int .i64 21] 3)
                refine wpAnyH_ready (rs := [2]) (by kernel_rfl) (by simp) ?_
                refine AllReadyH.cons (o := _) rfl (fun K hK => ?_) AllReadyH.nil
                go_simp
                (go_at_call 52; refine (pick_any B _ 2 _ hR_1 (by omega) (by omega) (by omega)).mono ?_; rintro e x0 ⟨j2, rfl, j20, j21, hR_c, hxc⟩)
                refine hK.out _ _ trivial (fun hHeld => ?_)
                clear hHeld hK K
                try simp only [Act.put, List.getElem_toArray, List.getElem_cons_succ, List.getElem_cons_zero, List.setIfInBounds_toArray, List.set_cons_zero, List.set_cons_succ]
                have hO_c := hO_1.extK hxc hBw
                have hX_c := hX_1.trans hxc
                have hzc := hX_c.size
                have hBc := hR_c.lt
                have hb4 : B < w4.heap.size := h4.lt
                have hLit := blk_ext hLit0 hxc (by omega)
                obtain ⟨l0, l1, _, _, lz⟩ := blk2 hLit
                by_cases c2 : j2 = 0
                · subst c2
                  refine wpAnyH_take (i := 3) (oi := _) (v := ?_) rfl (by kernel_rfl) (by kernel_rfl) (by kernel_rfl) (fun _ _ _ h => h) (Or.inl ⟨by rfl, ?_⟩) trivial ?_
                  (rotate_left); (focus (intro wv hSw; clear hSw; go_simp; (try with_reducible rfl)))
                  try simp only [Act.put, List.getElem_toArray, List.getElem_cons_succ, List.getElem_cons_zero, List.setIfInBounds_toArray, List.set_cons_zero, List.set_cons_succ]
                  refine wpAnyH_ready (rs := [4]) (by kernel_rfl) (by simp) ?_
                  refine AllReadyH.cons (o := _) rfl (fun K hK => ?_) AllReadyH.nil
                  go_simp
                  refine hK.out _ _ trivial (fun hHeld => ?_)
                  clear hHeld hK K
                  try simp only [Act.put, List.getElem_toArray, List.getElem_cons_succ, List.getElem_cons_zero, List.setIfInBounds_toArray, List.set_cons_zero, List.set_cons_succ]
                  refine wpAnyH_take (i := 5) (oi := _) (v := ?_) rfl (by kernel_rfl) (by kernel_rfl) (by kernel_rfl) (fun _ _ _ h => h) (Or.inl ⟨by rfl, ?_⟩) trivial ?_
                  (rotate_left); (focus (intro wv hSw; clear hSw; go_simp; (try with_reducible rfl)))
                  try simp only [Act.put, List.getElem_toArray, List.getElem_cons_succ, List.getElem_cons_zero, List.setIfInBounds_toArray, List.set_cons_zero, List.set_cons_succ]
                  refine wpAnyH_ready (rs := [6]) (by kernel_rfl) (by simp) ?_
                  refine AllReadyH.cons (o := _) rfl (fun K hK => ?_) AllReadyH.nil
                  go_simp
                  refine hK.out _ _ trivial (fun hHeld => ?_)
                  clear hHeld hK K
                  try simp only [Act.put, List.getElem_toArray, List.getElem_cons_succ, List.getElem_cons_zero, List.setIfInBounds_toArray, List.set_cons_zero, List.set_cons_succ]
                  have hL : SOwn encHour (x0.alloc (.cells (encHour.enc ((-1), 0)).toArray 27)) w.heap.size 27 (some ⟨x0.heap.size, 0, none⟩) 1 [((-1), 0)] := SOwn.of_blk (E := encHour) (xs := [((-1), 0)]) (blk_new x0 (.cells (encHour.enc ((-1), 0)).toArray 27)) hzc rfl (by unfold maxLen; omega)
                  have hO_d := hO_c.alloc (.cells (encHour.enc ((-1), 0)).toArray 27)
                  have hz1 : w.heap.size ≤ (x0.alloc (.cells (encHour.enc ((-1), 0)).toArray 27)).heap.size := by simp; omega
                  refine wpAnyH_ready (rs := [12]) (by kernel_rfl) (by simp) ?_
                  refine AllReadyH.cons (o := _) rfl (fun K hK => ?_) AllReadyH.nil
                  rw [if_pos (by kernel_rfl)]
                  refine wp_append_own _ (.tmp 38) (.tmp 43) _ rfl w.heap.size 27 i0 _ 2 16 Try.underlying23 HI.out.1 HI.out.2.1 HI.out.2.2.1 HI.out.2.2.2 rfl (by omega) (.slice (some ⟨x0.heap.size, 0, none⟩) 1 1) 1 (encHour.flat [((-1), 0)]) rfl hL ⟨g, 0, none⟩ 0 0 (encHour.flat ([] : List VHour)) rfl (by rw [encHour.flat_len, HYL.out]; rfl) (by intro j u hu; simp [Enc.flat] at hu) (encHour.flat_one _) (by simp only [maxLen]; omega) (by omega) hz1 ?_; intro v9 w9 hown9 hgr9 hnil9
                  obtain ⟨A9, cap9, rfl⟩ := own_valK hown9
                  refine hK.out _ _ trivial (fun hHeld => ?_)
                  clear hHeld hK K
                  try simp only [Act.put, List.getElem_toArray, List.getElem_cons_succ, List.getElem_cons_zero, List.setIfInBounds_toArray, List.set_cons_zero, List.set_cons_succ]
                  refine wpAnyH_take (i := 13) (oi := _) (v := ?_) rfl (by kernel_rfl) (by kernel_rfl) (by kernel_rfl) (fun _ _ _ h => h) (Or.inl ⟨by rfl, ?_⟩) trivial ?_
                  (rotate_left); (focus (intro wv hSw; clear hSw; go_simp; (try with_reducible rfl)))
                  try simp only [Act.put, List.getElem_toArray, List.getElem_cons_succ, List.getElem_cons_zero, List.setIfInBounds_toArray, List.set_cons_zero, List.set_cons_succ]
                  refine wpAnyH_done (by kernel_rfl) ?_ _
                  go_wp2_with fail
                  go_ret
                  have hne : ∀ k, Value.ownBlock (.slice (some ⟨x0.heap.size, 0, none⟩) 1 1) = some k → B < k := fun k hk => by simp [Value.ownBlock] at hk; omega
                  exact ⟨((-1), 0) :: ([] : List VHour), A9, cap9, (by simp [HM.out]; try omega), (by simp [HM.out]; try omega), SOwn.of_raw (E := encHour) hown9 (by rw [encHour.flat_cons]; simp [Enc.flat]) (by simp [HM.out]; try omega), ((hR_c.alloc (.cells (encHour.enc ((-1), 0)).toArray 27)).farK hgr9 hne).mono (by omega), (hX_c.alloc (.cells (encHour.enc ((-1), 0)).toArray 27)).far_grownK hgr9 (fun k hk => by simp [Value.ownBlock] at hk; omega)⟩
                · obtain rfl : j2 = 1 := by omega
                  clear c2
                  refine wpAnyH_take (i := 3) (oi := _) (v := ?_) rfl (by kernel_rfl) (by kernel_rfl) (by kernel_rfl) (fun _ _ _ h => h) (Or.inl ⟨by rfl, ?_⟩) trivial ?_
                  (rotate_left); (focus (intro wv hSw; clear hSw; go_simp; (try with_reducible rfl)))
                  try simp only [Act.put, List.getElem_toArray, List.getElem_cons_succ, List.getElem_cons_zero, List.setIfInBounds_toArray, List.set_cons_zero, List.set_cons_succ]
                  refine wpAnyH_ready (rs := [4]) (by kernel_rfl) (by simp) ?_
                  refine AllReadyH.cons (o := _) rfl (fun K hK => ?_) AllReadyH.nil
                  go_simp
                  refine hK.out _ _ trivial (fun hHeld => ?_)
                  clear hHeld hK K
                  try simp only [Act.put, List.getElem_toArray, List.getElem_cons_succ, List.getElem_cons_zero, List.setIfInBounds_toArray, List.set_cons_zero, List.set_cons_succ]
                  refine wpAnyH_take (i := 5) (oi := _) (v := ?_) rfl (by kernel_rfl) (by kernel_rfl) (by kernel_rfl) (fun _ _ _ h => h) (Or.inl ⟨by rfl, ?_⟩) trivial ?_
                  (rotate_left); (focus (intro wv hSw; clear hSw; go_simp; (try with_reducible rfl)))
                  try simp only [Act.put, List.getElem_toArray, List.getElem_cons_succ, List.getElem_cons_zero, List.setIfInBounds_toArray, List.set_cons_zero, List.set_cons_succ]
                  refine wpAnyH_ready (rs := [6]) (by kernel_rfl) (by simp) ?_
                  refine AllReadyH.cons (o := _) rfl (fun K hK => ?_) AllReadyH.nil
                  go_simp
                  refine hK.out _ _ trivial (fun hHeld => ?_)
                  clear hHeld hK K
                  try simp only [Act.put, List.getElem_toArray, List.getElem_cons_succ, List.getElem_cons_zero, List.setIfInBounds_toArray, List.set_cons_zero, List.set_cons_succ]
                  have hL : SOwn encHour (x0.alloc (.cells (encHour.enc (21, 0)).toArray 27)) w.heap.size 27 (some ⟨x0.heap.size, 0, none⟩) 1 [(21, 0)] := SOwn.of_blk (E := encHour) (xs := [(21, 0)]) (blk_new x0 (.cells (encHour.enc (21, 0)).toArray 27)) hzc rfl (by unfold maxLen; omega)
                  have hO_d := hO_c.alloc (.cells (encHour.enc (21, 0)).toArray 27)
                  have hz1 : w.heap.size ≤ (x0.alloc (.cells (encHour.enc (21, 0)).toArray 27)).heap.size := by simp; omega
                  refine wpAnyH_ready (rs := [12]) (by kernel_rfl) (by simp) ?_
                  refine AllReadyH.cons (o := _) rfl (fun K hK => ?_) AllReadyH.nil
                  rw [if_pos (by kernel_rfl)]
                  refine wp_append_own _ (.tmp 38) (.tmp 43) _ rfl w.heap.size 27 i0 _ 2 16 Try.underlying23 HI.out.1 HI.out.2.1 HI.out.2.2.1 HI.out.2.2.2 rfl (by omega) (.slice (some ⟨x0.heap.size, 0, none⟩) 1 1) 1 (encHour.flat [(21, 0)]) rfl hL ⟨g, 0, none⟩ 0 0 (encHour.flat ([] : List VHour)) rfl (by rw [encHour.flat_len, HYL.out]; rfl) (by intro j u hu; simp [Enc.flat] at hu) (encHour.flat_one _) (by simp only [maxLen]; omega) (by omega) hz1 ?_; intro v9 w9 hown9 hgr9 hnil9
                  obtain ⟨A9, cap9, rfl⟩ := own_valK hown9
                  refine hK.out _ _ trivial (fun hHeld => ?_)
                  clear hHeld hK K
                  try simp only [Act.put, List.getElem_toArray, List.getElem_cons_succ, List.getElem_cons_zero, List.setIfInBounds_toArray, List.set_cons_zero, List.set_cons_succ]
                  refine wpAnyH_take (i := 13) (oi := _) (v := ?_) rfl (by kernel_rfl) (by kernel_rfl) (by kernel_rfl) (fun _ _ _ h => h) (Or.inl ⟨by rfl, ?_⟩) trivial ?_
                  (rotate_left); (focus (intro wv hSw; clear hSw; go_simp; (try with_reducible rfl)))
                  try simp only [Act.put, List.getElem_toArray, List.getElem_cons_succ, List.getElem_cons_zero, List.setIfInBounds_toArray, List.set_cons_zero, List.set_cons_succ]
                  refine wpAnyH_done (by kernel_rfl) ?_ _
                  go_wp2_with fail
                  go_ret
                  have hne : ∀ k, Value.ownBlock (.slice (some ⟨x0.heap.size, 0, none⟩) 1 1) = some k → B < k := fun k hk => by simp [Value.ownBlock] at hk; omega
                  exact ⟨(21, 0) :: ([] : List VHour), A9, cap9, (by simp [HM.out]; try omega), (by simp [HM.out]; try omega), SOwn.of_raw (E := encHour) hown9 (by rw [encHour.flat_cons]; simp [Enc.flat]) (by simp [HM.out]; try omega), ((hR_c.alloc (.cells (encHour.enc (21, 0)).toArray 27)).farK hgr9 hne).mono (by omega), (hX_c.alloc (.cells (encHour.enc (21, 0)).toArray 27)).far_grownK hgr9 (fun k hk => by simp [Value.ownBlock] at hk; omega)⟩
              · go_simp
                (go_at_call 52; refine (pick_any B _ 2 _ hR_0 (by omega) (by omega) (by omega)).mono ?_; rintro e x0 ⟨j2, rfl, j20, j21, hR_1, hxc⟩)
                refine hK.out _ _ trivial (fun hHeld => ?_)
                clear hHeld hK K
                try simp only [Act.put, List.getElem_toArray, List.getElem_cons_succ, List.getElem_cons_zero, List.setIfInBounds_toArray, List.set_cons_zero, List.set_cons_succ]
                have hO_1 := hO_0.extK hxc hBw
                have hX_1 := hX_0.trans hxc
                refine wpAnyH_ready (rs := [0]) (by kernel_rfl) (by simp) ?_
                refine AllReadyH.cons (o := _) rfl (fun K hK => ?_) AllReadyH.nil
                go_simp
                refine hK.out _ _ trivial (fun hHeld => ?_)
                clear hHeld hK K
                try simp only [Act.put, List.getElem_toArray, List.getElem_cons_succ, List.getElem_cons_zero, List.setIfInBounds_toArray, List.set_cons_zero, List.set_cons_succ]
                have hR_c := hR_1.alloc (.cells #[.int .i64 (-1), .int .i64 21] 3)
                have hO_c := hO_1.alloc (.cells #[.int .i64 (-1), .int .i64 21] 3)
                have hX_c := hX_1.alloc (.cells #[.int .i64 (-1), .int .i64 21] 3)
                have hzc := hX_c.size
                have hBc := hR_c.lt
                have hLit := blk_new x0 (.cells #[.int .i64 (-1), .int .i64 21] 3)
                clear hR_1 hO_1 hX_1
                generalize x0.alloc (.cells #[.int .i64 (-1), .int .i64 21] 3) = y0 at hR_c hO_c hX_c hLit hzc hBc ⊢
                obtain ⟨l0, l1, _, _, lz⟩ := blk2 hLit
                by_cases c2 : j2 = 0
                · subst c2
                  refine wpAnyH_take (i := 3) (oi := _) (v := ?_) rfl (by kernel_rfl) (by kernel_rfl) (by kernel_rfl) (fun _ _ _ h => h) (Or.inl ⟨by rfl, ?_⟩) trivial ?_
                  (rotate_left); (focus (intro wv hSw; clear hSw; go_simp; (try with_reducible rfl)))
                  try simp only [Act.put, List.getElem_toArray, List.getElem_cons_succ, List.getElem_cons_zero, List.setIfInBounds_toArray, List.set_cons_zero, List.set_cons_succ]
                  refine wpAnyH_ready (rs := [4]) (by kernel_rfl) (by simp) ?_
                  refine AllReadyH.cons (o := _) rfl (fun K hK => ?_) AllReadyH.nil
                  go_simp
                  refine hK.out _ _ trivial (fun hHeld => ?_)
                  clear hHeld hK K
                  try simp only [Act.put, List.getElem_toArray, List.getElem_cons_succ, List.getElem_cons_zero, List.setIfInBounds_toArray, List.set_cons_zero, List.set_cons_succ]
                  refine wpAnyH_take (i := 5) (oi := _) (v := ?_) rfl (by kernel_rfl) (by kernel_rfl) (by kernel_rfl) (fun _ _ _ h => h) (Or.inl ⟨by rfl, ?_⟩) trivial ?_
                  (rotate_left); (focus (intro wv hSw; clear hSw; go_simp; (try with_reducible rfl)))
                  try simp only [Act.put, List.getElem_toArray, List.getElem_cons_succ, List.getElem_cons_zero, List.setIfInBounds_toArray, List.set_cons_zero, List.set_cons_succ]
                  refine wpAnyH_ready (rs := [6]) (by kernel_rfl) (by simp) ?_
                  refine AllReadyH.cons (o := _) rfl (fun K hK => ?_) AllReadyH.nil
                  go_simp
                  refine hK.out _ _ trivial (fun hHeld => ?_)
                  clear hHeld hK K
                  try simp only [Act.put, List.getElem_toArray, List.getElem_cons_succ, List.getElem_cons_zero, List.setIfInBounds_toArray, List.set_cons_zero, List.set_cons_succ]
                  have hL : SOwn encHour (y0.alloc (.cells (encHour.enc ((-1), 0)).toArray 27)) w.heap.size 27 (some ⟨y0.heap.size, 0, none⟩) 1 [((-1), 0)] := SOwn.of_blk (E := encHour) (xs := [((-1), 0)]) (blk_new y0 (.cells (encHour.enc ((-1), 0)).toArray 27)) hzc rfl (by unfold maxLen; omega)
                  have hO_d := hO_c.alloc (.cells (encHour.enc ((-1), 0)).toArray 27)
                  have hz1 : w.heap.size ≤ (y0.alloc (.cells (encHour.enc ((-1), 0)).toArray 27)).heap.size := by simp; omega
                  refine wpAnyH_ready (rs := [12]) (by kernel_rfl) (by simp) ?_
                  refine AllReadyH.cons (o := _) rfl (fun K hK => ?_) AllReadyH.nil
                  rw [if_pos (by kernel_rfl)]
                  refine wp_append_own _ (.tmp 38) (.tmp 43) _ rfl w.heap.size 27 i0 _ 2 16 Try.underlying23 HI.out.1 HI.out.2.1 HI.out.2.2.1 HI.out.2.2.2 rfl (by omega) (.slice (some ⟨y0.heap.size, 0, none⟩) 1 1) 1 (encHour.flat [((-1), 0)]) rfl hL ⟨g, 0, none⟩ 0 0 (encHour.flat ([] : List VHour)) rfl (by rw [encHour.flat_len, HYL.out]; rfl) (by intro j u hu; simp [Enc.flat] at hu) (encHour.flat_one _) (by simp only [maxLen]; omega) (by omega) hz1 ?_; intro v9 w9 hown9 hgr9 hnil9
                  obtain ⟨A9, cap9, rfl⟩ := own_valK hown9
                  refine hK.out _ _ trivial (fun hHeld => ?_)
                  clear hHeld hK K
                  try simp only [Act.put, List.getElem_toArray, List.getElem_cons_succ, List.getElem_cons_zero, List.setIfInBounds_toArray, List.set_cons_zero, List.set_cons_succ]
                  refine wpAnyH_take (i := 13) (oi := _) (v := ?_) rfl (by kernel_rfl) (by kernel_rfl) (by kernel_rfl) (fun _ _ _ h => h) (Or.inl ⟨by rfl, ?_⟩) trivial ?_
                  (rotate_left); (focus (intro wv hSw; clear hSw; go_simp; (try with_reducible rfl)))
                  try simp only [Act.put, List.getElem_toArray, List.getElem_cons_succ, List.getElem_cons_zero, List.setIfInBounds_toArray, List.set_cons_zero, List.set_cons_succ]
                  refine wpAnyH_done (by kernel_rfl) ?_ _
                  go_wp2_with fail
                  go_ret
                  have hne : ∀ k, Value.ownBlock (.slice (some ⟨y0.heap.size, 0, none⟩) 1 1) = some k → B < k := fun k hk => by simp [Value.ownBlock] at hk; omega
                  exact ⟨((-1), 0) :: ([] : List VHour), A9, cap9, (by simp [HM.out]; try omega), (by simp [HM.out]; try omega), SOwn.of_raw (E := encHour) hown9 (by rw [encHour.flat_cons]; simp [Enc.flat]) (by simp [HM.out]; try omega), ((hR_c.alloc (.cells (encHour.enc ((-1), 0)).toArray 27)).farK hgr9 hne).mono (by omega), (hX_c.alloc (.cells (encHour.enc ((-1), 0)).toArray 27)).far_grownK hgr9 (fun k hk => by simp [Value.ownBlock] at hk; omega)⟩
                · obtain rfl : j2 = 1 := by omega
                  clear c2
                  refine wpAnyH_take (i := 3) (oi := _) (v := ?_) rfl (by kernel_rfl) (by kernel_rfl) (by kernel_rfl) (fun _ _ _ h => h) (Or.inl ⟨by rfl, ?_⟩) trivial ?_
                  (rotate_left); (focus (intro wv hSw; clear hSw; go_simp; (try with_reducible rfl)))
                  try simp only [Act.put, List.getElem_toArray, List.getElem_cons_succ, List.getElem_cons_zero, List.setIfInBounds_toArray, List.set_cons_zero, List.set_cons_succ]
                  refine wpAnyH_ready (rs := [4]) (by kernel_rfl) (by simp) ?_
                  refine AllReadyH.cons (o := _) rfl (fun K hK => ?_) AllReadyH.nil
                  go_simp
                  refine hK.out _ _ trivial (fun hHeld => ?_)
                  clear hHeld hK K
                  try simp only [Act.put, List.getElem_toArray, List.getElem_cons_succ, List.getElem_cons_zero, List.setIfInBounds_toArray, List.set_cons_zero, List.set_cons_succ]
                  refine wpAnyH_take (i := 5) (oi := _) (v := ?_) rfl (by kernel_rfl) (by kernel_rfl) (by kernel_rfl) (fun _ _ _ h => h) (Or.inl ⟨by rfl, ?_⟩) trivial ?_
                  (rotate_left); (focus (intro wv hSw; clear hSw; go_simp; (try with_reducible rfl)))
                  try simp only [Act.put, List.getElem_toArray, List.getElem_cons_succ, List.getElem_cons_zero, List.setIfInBounds_toArray, List.set_cons_zero, List.set_cons_succ]
                  refine wpAnyH_ready (rs := [6]) (by kernel_rfl) (by simp) ?_
                  refine AllReadyH.cons (o := _) rfl (fun K hK => ?_) AllReadyH.nil
                  go_simp
                  refine hK.out _ _ trivial (fun hHeld => ?_)
                  clear hHeld hK K
                  try simp only [Act.put, List.getElem_toArray, List.getElem_cons_succ, List.getElem_cons_zero, List.setIfInBounds_toArray, List.set_cons_zero, List.set_cons_succ]
                  have hL : SOwn encHour (y0.alloc (.cells (encHour.enc (21, 0)).toArray 27)) w.heap.size 27 (some ⟨y0.heap.size, 0, none⟩) 1 [(21, 0)] := SOwn.of_blk (E := encHour) (xs := [(21, 0)]) (blk_new y0 (.cells (encHour.enc (21, 0)).toArray 27)) hzc rfl (by unfold maxLen; omega)
                  have hO_d := hO_c.alloc (.cells (encHour.enc (21, 0)).toArray 27)
                  have hz1 : w.heap.size ≤ (y0.alloc (.cells (encHour.enc (21, 0)).toArray 27)).heap.size := by simp; omega
                  refine wpAnyH_ready (rs := [12]) (by kernel_rfl) (by simp) ?_
                  refine AllReadyH.cons (o := _) rfl (fun K hK => ?_) AllReadyH.nil
                  rw [if_pos (by kernel_rfl)]
                  refine wp_append_own _ (.tmp 38) (.tmp 43) _ rfl w.heap.size 27 i0 _ 2 16 Try.underlying23 HI.out.1 HI.out.2.1 HI.out.2.2.1 HI.out.2.2.2 rfl (by omega) (.slice (some ⟨y0.heap.size, 0, none⟩) 1 1) 1 (encHour.flat [(21, 0)]) rfl hL ⟨g, 0, none⟩ 0 0 (encHour.flat ([] : List VHour)) rfl (by rw [encHour.flat_len, HYL.out]; rfl) (by intro j u hu; simp [Enc.flat] at hu) (encHour.flat_one _) (by simp only [maxLen]; omega) (by omega) hz1 ?_; intro v9 w9 hown9 hgr9 hnil9
                  obtain ⟨A9, cap9, rfl⟩ := own_valK hown9
                  refine hK.out _ _ trivial (fun hHeld => ?_)
                  clear hHeld hK K
                  try simp only [Act.put, List.getElem_toArray, List.getElem_cons_succ, List.getElem_cons_zero, List.setIfInBounds_toArray, List.set_cons_zero, List.set_cons_succ]
                  refine wpAnyH_take (i := 13) (oi := _) (v := ?_) rfl (by kernel_rfl) (by kernel_rfl) (by kernel_rfl) (fun _ _ _ h => h) (Or.inl ⟨by rfl, ?_⟩) trivial ?_
                  (rotate_left); (focus (intro wv hSw; clear hSw; go_simp; (try with_reducible rfl)))
                  try simp only [Act.put, List.getElem_toArray, List.getElem_cons_succ, List.getElem_cons_zero, List.setIfInBounds_toArray, List.set_cons_zero, List.set_cons_succ]
                  refine wpAnyH_done (by kernel_rfl) ?_ _
                  go_wp2_with fail
                  go_ret
                  have hne : ∀ k, Value.ownBlock (.slice (some ⟨y0.heap.size, 0, none⟩) 1 1) = some k → B < k := fun k hk => by simp [Value.ownBlock] at hk; omega
                  exact ⟨(21, 0) :: ([] : List VHour), A9, cap9, (by simp [HM.out]; try omega), (by simp [HM.out]; try omega), SOwn.of_raw (E := encHour) hown9 (by rw [encHour.flat_cons]; simp [Enc.flat]) (by simp [HM.out]; try omega), ((hR_c.alloc (.cells (encHour.enc (21, 0)).toArray 27)).farK hgr9 hne).mono (by omega), (hX_c.alloc (.cells (encHour.enc (21, 0)).toArray 27)).far_grownK hgr9 (fun k hk => by simp [Value.ownBlock] at hk; omega)⟩
            · have HYL : Hid ((xs.drop 1).length = m - 1) := by show _ = _; rw [List.length_drop, HM.out]
              go_wp2_with fail
              have hR_0 := h4.drw
              have hO_0 := hO4.drew
              have hX_0 := hX4.drw
              refine wp_region_held_drew (S := (fun _ => True)) (by kernel_rfl) trivial (fun hHeld => ?_)
              clear hHeld
              refine wpAnyH_take (i := 1) (oi := _) (v := ?_) rfl (by kernel_rfl) (by kernel_rfl) (by kernel_rfl) (fun _ _ _ h => h) (Or.inl ⟨by rfl, ?_⟩) trivial ?_
              (rotate_left); (focus (intro wv hSw; clear hSw; go_simp; (try with_reducible rfl)))
              try simp only [Act.put, List.getElem_toArray, List.getElem_cons_succ, List.getElem_cons_zero, List.setIfInBounds_toArray, List.set_cons_zero, List.set_cons_succ]
              refine wpAnyH_take (i := 7) (oi := _) (v := ?_) rfl (by kernel_rfl) (by kernel_rfl) (by kernel_rfl) (fun _ _ _ h => h) (Or.inl ⟨by rfl, ?_⟩) trivial ?_
              (rotate_left); (focus (intro wv hSw; clear hSw; go_simp; (try with_reducible rfl)))
              try simp only [Act.put, List.getElem_toArray, List.getElem_cons_succ, List.getElem_cons_zero, List.setIfInBounds_toArray, List.set_cons_zero, List.set_cons_succ]
              refine wpAnyH_take (i := 8) (oi := _) (v := ?_) rfl (by kernel_rfl) (by kernel_rfl) (by kernel_rfl) (fun _ _ _ h => h) (Or.inl ⟨by rfl, ?_⟩) trivial ?_
              (rotate_left); (focus (intro wv hSw; clear hSw; go_simp; (try with_reducible rfl)))
              try simp only [Act.put, List.getElem_toArray, List.getElem_cons_succ, List.getElem_cons_zero, List.setIfInBounds_toArray, List.set_cons_zero, List.set_cons_succ]
              refine wpAnyH_take (i := 9) (oi := _) (v := ?_) rfl (by kernel_rfl) (by kernel_rfl) (by kernel_rfl) (fun _ _ _ h => h) (Or.inl ⟨by rfl, ?_⟩) trivial ?_
              (rotate_left); (focus (intro wv hSw; clear hSw; go_simp; (try with_reducible rfl)))
              try simp only [Act.put, List.getElem_toArray, List.getElem_cons_succ, List.getElem_cons_zero, List.setIfInBounds_toArray, List.set_cons_zero, List.set_cons_succ]
              refine wpAnyH_take (i := 10) (oi := _) (v := ?_) rfl (by kernel_rfl) (by kernel_rfl) (by kernel_rfl) (fun _ _ _ h => h) (Or.inl ⟨by rfl, ?_⟩) trivial ?_
              (rotate_left); (focus (intro wv hSw; clear hSw; go_simp; (try with_reducible rfl)))
              try simp only [Act.put, List.getElem_toArray, List.getElem_cons_succ, List.getElem_cons_zero, List.setIfInBounds_toArray, List.set_cons_zero, List.set_cons_succ]
              refine wpAnyH_take (i := 11) (oi := _) (v := ?_) rfl (by kernel_rfl) (by kernel_rfl) (by kernel_rfl) (fun _ _ _ h => h) (Or.inl ⟨by rfl, ?_⟩) trivial ?_
              (rotate_left); (focus (intro wv hSw; clear hSw; go_simp; (try with_reducible rfl)))
              try simp only [Act.put, List.getElem_toArray, List.getElem_cons_succ, List.getElem_cons_zero, List.setIfInBounds_toArray, List.set_cons_zero, List.set_cons_succ]
              refine wpAnyH_ready (rs := [0, 2]) (by kernel_rfl) (by simp) ?_
              refine AllReadyH.cons (o := _) rfl (fun K hK => ?_) (AllReadyH.cons (o := _) rfl (fun K hK => ?_) AllReadyH.nil)
              · go_simp
                refine hK.out _ _ trivial (fun hHeld => ?_)
                clear hHeld hK K
                try simp only [Act.put, List.getElem_toArray, List.getElem_cons_succ, List.getElem_cons_zero, List.setIfInBounds_toArray, List.set_cons_zero, List.set_cons_succ]
                have hR_1 := hR_0.alloc (.cells #[.int .i64 (-1), .int .i64 21] 3)
                have hO_1 := hO_0.alloc (.cells #[.int .i64 (-1), .int .i64 21] 3)
                have hX_1 := hX_0.alloc (.cells #[.int .i64 (-1), .int .i64 21] 3)
                have hLit0 : (w4.drew.alloc (.cells #[.int .i64 (-1), .int .i64 21] 3)).heap[w4.heap.size]? = some (.cells #[.int .i64 (-1), .int .i64 21] 3) := blk_new w4.drew (.cells #[.int .i64 (-1), .int .i64 21] 3)
                refine wpAnyH_ready (rs := [2]) (by kernel_rfl) (by simp) ?_
                refine AllReadyH.cons (o := _) rfl (fun K hK => ?_) AllReadyH.nil
                go_simp
                (go_at_call 52; refine (pick_any B _ 2 _ hR_1 (by omega) (by omega) (by omega)).mono ?_; rintro e x0 ⟨j2, rfl, j20, j21, hR_c, hxc⟩)
                refine hK.out _ _ trivial (fun hHeld => ?_)
                clear hHeld hK K
                try simp only [Act.put, List.getElem_toArray, List.getElem_cons_succ, List.getElem_cons_zero, List.setIfInBounds_toArray, List.set_cons_zero, List.set_cons_succ]
                have hO_c := hO_1.extK hxc hBw
                have hX_c := hX_1.trans hxc
                have hzc := hX_c.size
                have hBc := hR_c.lt
                have hb4 : B < w4.heap.size := h4.lt
                have hLit := blk_ext hLit0 hxc (by omega)
                obtain ⟨l0, l1, _, _, lz⟩ := blk2 hLit
                by_cases c2 : j2 = 0
                · subst c2
                  refine wpAnyH_take (i := 3) (oi := _) (v := ?_) rfl (by kernel_rfl) (by kernel_rfl) (by kernel_rfl) (fun _ _ _ h => h) (Or.inl ⟨by rfl, ?_⟩) trivial ?_
                  (rotate_left); (focus (intro wv hSw; clear hSw; go_simp; (try with_reducible rfl)))
                  try simp only [Act.put, List.getElem_toArray, List.getElem_cons_succ, List.getElem_cons_zero, List.setIfInBounds_toArray, List.set_cons_zero, List.set_cons_succ]
                  refine wpAnyH_ready (rs := [4]) (by kernel_rfl) (by simp) ?_
                  refine AllReadyH.cons (o := _) rfl (fun K hK => ?_) AllReadyH.nil
                  go_simp
                  refine hK.out _ _ trivial (fun hHeld => ?_)
                  clear hHeld hK K
                  try simp only [Act.put, List.getElem_toArray, List.getElem_cons_succ, List.getElem_cons_zero, List.setIfInBounds_toArray, List.set_cons_zero, List.set_cons_succ]
                  refine wpAnyH_take (i := 5) (oi := _) (v := ?_) rfl (by kernel_rfl) (by kernel_rfl) (by kernel_rfl) (fun _ _ _ h => h) (Or.inl ⟨by rfl, ?_⟩) trivial ?_
                  (rotate_left); (focus (intro wv hSw; clear hSw; go_simp; (try with_reducible rfl)))
                  try simp only [Act.put, List.getElem_toArray, List.getElem_cons_succ, List.getElem_cons_zero, List.setIfInBounds_toArray, List.set_cons_zero, List.set_cons_succ]
                  refine wpAnyH_ready (rs := [6]) (by kernel_rfl) (by simp) ?_
                  refine AllReadyH.cons (o := _) rfl (fun K hK => ?_) AllReadyH.nil
                  go_simp
                  refine hK.out _ _ trivial (fun hHeld => ?_)
                  clear hHeld hK K
                  try simp only [Act.put, List.getElem_toArray, List.getElem_cons_succ, List.getElem_cons_zero, List.setIfInBounds_toArray, List.set_cons_zero, List.set_cons_succ]
                  have hL : SOwn encHour (x0.alloc (.cells (encHour.enc ((-1), 0)).toArray 27)) w.heap.size 27 (some ⟨x0.heap.size, 0, none⟩) 1 [((-1), 0)] := SOwn.of_blk (E := encHour) (xs := [((-1), 0)]) (blk_new x0 (.cells (encHour.enc ((-1), 0)).toArray 27)) hzc rfl (by unfold maxLen; omega)
                  have hO_d := hO_c.alloc (.cells (encHour.enc ((-1), 0)).toArray 27)
                  have hz1 : w.heap.size ≤ (x0.alloc (.cells (encHour.enc ((-1), 0)).toArray 27)).heap.size := by simp; omega
                  refine wpAnyH_ready (rs := [12]) (by kernel_rfl) (by simp) ?_
                  refine AllReadyH.cons (o := _) rfl (fun K hK => ?_) AllReadyH.nil
                  rw [if_pos (by kernel_rfl)]
                  refine wp_append_own _ (.tmp 38) (.tmp 43) _ rfl w.heap.size 27 i0 _ 2 16 Try.underlying23 HI.out.1 HI.out.2.1 HI.out.2.2.1 HI.out.2.2.2 rfl (by omega) (.slice (some ⟨x0.heap.size, 0, none⟩) 1 1) 1 (encHour.flat [((-1), 0)]) rfl hL ⟨g, 2, none⟩ (m - 1) (cp - 1) (encHour.flat (xs.drop 1)) rfl (by rw [encHour.flat_len, HYL.out]; rfl) (SRow.newsK (SOwn.tailK hO_d)) (encHour.flat_one _) (by simp only [maxLen]; omega) (by omega) hz1 ?_; intro v9 w9 hown9 hgr9 hnil9
                  obtain ⟨A9, cap9, rfl⟩ := own_valK hown9
                  refine hK.out _ _ trivial (fun hHeld => ?_)
                  clear hHeld hK K
                  try simp only [Act.put, List.getElem_toArray, List.getElem_cons_succ, List.getElem_cons_zero, List.setIfInBounds_toArray, List.set_cons_zero, List.set_cons_succ]
                  refine wpAnyH_take (i := 13) (oi := _) (v := ?_) rfl (by kernel_rfl) (by kernel_rfl) (by kernel_rfl) (fun _ _ _ h => h) (Or.inl ⟨by rfl, ?_⟩) trivial ?_
                  (rotate_left); (focus (intro wv hSw; clear hSw; go_simp; (try with_reducible rfl)))
                  try simp only [Act.put, List.getElem_toArray, List.getElem_cons_succ, List.getElem_cons_zero, List.setIfInBounds_toArray, List.set_cons_zero, List.set_cons_succ]
                  refine wpAnyH_done (by kernel_rfl) ?_ _
                  go_wp2_with fail
                  go_ret
                  have hne : ∀ k, Value.ownBlock (.slice (some ⟨x0.heap.size, 0, none⟩) 1 1) = some k → B < k := fun k hk => by simp [Value.ownBlock] at hk; omega
                  exact ⟨((-1), 0) :: (xs.drop 1), A9, cap9, (by simp [HM.out]; try omega), (by simp [HM.out]; try omega), SOwn.of_raw (E := encHour) hown9 (by rw [encHour.flat_cons]; simp [Enc.flat]) (by simp [HM.out]; try omega), ((hR_c.alloc (.cells (encHour.enc ((-1), 0)).toArray 27)).farK hgr9 hne).mono (by omega), (hX_c.alloc (.cells (encHour.enc ((-1), 0)).toArray 27)).far_grownK hgr9 (fun k hk => by simp [Value.ownBlock] at hk; omega)⟩
                · obtain rfl : j2 = 1 := by omega
                  clear c2
                  refine wpAnyH_take (i := 3) (oi := _) (v := ?_) rfl (by kernel_rfl) (by kernel_rfl) (by kernel_rfl) (fun _ _ _ h => h) (Or.inl ⟨by rfl, ?_⟩) trivial ?_
                  (rotate_left); (focus (intro wv hSw; clear hSw; go_simp; (try with_reducible rfl)))
                  try simp only [Act.put, List.getElem_toArray, List.getElem_cons_succ, List.getElem_cons_zero, List.setIfInBounds_toArray, List.set_cons_zero, List.set_cons_succ]
                  refine wpAnyH_ready (rs := [4]) (by kernel_rfl) (by simp) ?_
                  refine AllReadyH.cons (o := _) rfl (fun K hK => ?_) AllReadyH.nil
                  go_simp
                  refine hK.out _ _ trivial (fun hHeld => ?_)
                  clear hHeld hK K
                  try simp only [Act.put, List.getElem_toArray, List.getElem_cons_succ, List.getElem_cons_zero, List.setIfInBounds_toArray, List.set_cons_zero, List.set_cons_succ]
                  refine wpAnyH_take (i := 5) (oi := _) (v := ?_) rfl (by kernel_rfl) (by kernel_rfl) (by kernel_rfl) (fun _ _ _ h => h) (Or.inl ⟨by rfl, ?_⟩) trivial ?_
                  (rotate_left); (focus (intro wv hSw; clear hSw; go_simp; (try with_reducible rfl)))
                  try simp only [Act.put, List.getElem_toArray, List.getElem_cons_succ, List.getElem_cons_zero, List.setIfInBounds_toArray, List.set_cons_zero, List.set_cons_succ]
                  refine wpAnyH_ready (rs := [6]) (by kernel_rfl) (by simp) ?_
                  refine AllReadyH.cons (o := _) rfl (fun K hK => ?_) AllReadyH.nil
                  go_simp
                  refine hK.out _ _ trivial (fun hHeld => ?_)
                  clear hHeld hK K
                  try simp only [Act.put, List.getElem_toArray, List.getElem_cons_succ, List.getElem_cons_zero, List.setIfInBounds_toArray, List.set_cons_zero, List.set_cons_succ]
                  have hL : SOwn encHour (x0.alloc (.cells (encHour.enc (21, 0)).toArray 27)) w.heap.size 27 (some ⟨x0.heap.size, 0, none⟩) 1 [(21, 0)] := SOwn.of_blk (E := encHour) (xs := [(21, 0)]) (blk_new x0 (.cells (encHour.enc (21, 0)).toArray 27)) hzc rfl (by unfold maxLen; omega)
                  have hO_d := hO_c.alloc (.cells (encHour.enc (21, 0)).toArray 27)
                  have hz1 : w.heap.size ≤ (x0.alloc (.cells (encHour.enc (21, 0)).toArray 27)).heap.size := by simp; omega
                  refine wpAnyH_ready (rs := [12]) (by kernel_rfl) (by simp) ?_
                  refine AllReadyH.cons (o := _) rfl (fun K hK => ?_) AllReadyH.nil
                  rw [if_pos (by kernel_rfl)]
                  refine wp_append_own _ (.tmp 38) (.tmp 43) _ rfl w.heap.size 27 i0 _ 2 16 Try.underlying23 HI.out.1 HI.out.2.1 HI.out.2.2.1 HI.out.2.2.2 rfl (by omega) (.slice (some ⟨x0.heap.size, 0, none⟩) 1 1) 1 (encHour.flat [(21, 0)]) rfl hL ⟨g, 2, none⟩ (m - 1) (cp - 1) (encHour.flat (xs.drop 1)) rfl (by rw [encHour.flat_len, HYL.out]; rfl) (SRow.newsK (SOwn.tailK hO_d)) (encHour.flat_one _) (by simp only [maxLen]; omega) (by omega) hz1 ?_; intro v9 w9 hown9 hgr9 hnil9
                  obtain ⟨A9, cap9, rfl⟩ := own_valK hown9
                  refine hK.out _ _ trivial (fun hHeld => ?_)
                  clear hHeld hK K
                  try simp only [Act.put, List.getElem_toArray, List.getElem_cons_succ, List.getElem_cons_zero, List.setIfInBounds_toArray, List.set_cons_zero, List.set_cons_succ]
                  refine wpAnyH_take (i := 13) (oi := _) (v := ?_) rfl (by kernel_rfl) (by kernel_rfl) (by kernel_rfl) (fun _ _ _ h => h) (Or.inl ⟨by rfl, ?_⟩) trivial ?_
                  (rotate_left); (focus (intro wv hSw; clear hSw; go_simp; (try with_reducible rfl)))
                  try simp only [Act.put, List.getElem_toArray, List.getElem_cons_succ, List.getElem_cons_zero, List.setIfInBounds_toArray, List.set_cons_zero, List.set_cons_succ]
                  refine wpAnyH_done (by kernel_rfl) ?_ _
                  go_wp2_with fail
                  go_ret
                  have hne : ∀ k, Value.ownBlock (.slice (some ⟨x0.heap.size, 0, none⟩) 1 1) = some k → B < k := fun k hk => by simp [Value.ownBlock] at hk; omega
                  exact ⟨(21, 0) :: (xs.drop 1), A9, cap9, (by simp [HM.out]; try omega), (by simp [HM.out]; try omega), SOwn.of_raw (E := encHour) hown9 (by rw [encHour.flat_cons]; simp [Enc.flat]) (by simp [HM.out]; try omega), ((hR_c.alloc (.cells (encHour.enc (21, 0)).toArray 27)).farK hgr9 hne).mono (by omega), (hX_c.alloc (.cells (encHour.enc (21, 0)).toArray 27)).far_grownK hgr9 (fun k hk => by simp [Value.ownBlock] at hk; omega)⟩
              · go_simp
                (go_at_call 52; refine (pick_any B _ 2 _ hR_0 (by omega) (by omega) (by omega)).mono ?_; rintro e x0 ⟨j2, rfl, j20, j21, hR_1, hxc⟩)
                refine hK.out _ _ trivial (fun hHeld => ?_)
                clear hHeld hK K
                try simp only [Act.put, List.getElem_toArray, List.getElem_cons_succ, List.getElem_cons_zero, List.setIfInBounds_toArray, List.set_cons_zero, List.set_cons_succ]
                have hO_1 := hO_0.extK hxc hBw
                have hX_1 := hX_0.trans hxc
                refine wpAnyH_ready (rs := [0]) (by kernel_rfl) (by simp) ?_
                refine AllReadyH.cons (o := _) rfl (fun K hK => ?_) AllReadyH.nil
                go_simp
                refine hK.out _ _ trivial (fun hHeld => ?_)
                clear hHeld hK K
                try simp only [Act.put, List.getElem_toArray, List.getElem_cons_succ, List.getElem_cons_zero, List.setIfInBounds_toArray, List.set_cons_zero, List.set_cons_succ]
                have hR_c := hR_1.alloc (.cells #[.int .i64 (-1), .int .i64 21] 3)
                have hO_c := hO_1.alloc (.cells #[.int .i64 (-1), .int .i64 21] 3)
                have hX_c := hX_1.alloc (.cells #[.int .i64 (-1), .int .i64 21] 3)
                have hzc := hX_c.size
                have hBc := hR_c.lt
                have hLit := blk_new x0 (.cells #[.int .i64 (-1), .int .i64 21] 3)
                clear hR_1 hO_1 hX_1
                generalize x0.alloc (.cells #[.int .i64 (-1), .int .i64 21] 3) = y0 at hR_c hO_c hX_c hLit hzc hBc ⊢
                obtain ⟨l0, l1, _, _, lz⟩ := blk2 hLit
                by_cases c2 : j2 = 0
                · subst c2
                  refine wpAnyH_take (i := 3) (oi := _) (v := ?_) rfl (by kernel_rfl) (by kernel_rfl) (by kernel_rfl) (fun _ _ _ h => h) (Or.inl ⟨by rfl, ?_⟩) trivial ?_
                  (rotate_left); (focus (intro wv hSw; clear hSw; go_simp; (try with_reducible rfl)))
                  try simp only [Act.put, List.getElem_toArray, List.getElem_cons_succ, List.getElem_cons_zero, List.setIfInBounds_toArray, List.set_cons_zero, List.set_cons_succ]
                  refine wpAnyH_ready (rs := [4]) (by kernel_rfl) (by simp) ?_
                  refine AllReadyH.cons (o := _) rfl (fun K hK => ?_) AllReadyH.nil
                  go_simp
                  refine hK.out _ _ trivial (fun hHeld => ?_)
                  clear hHeld hK K
                  try simp only [Act.put, List.getElem_toArray, List.getElem_cons_succ, List.getElem_cons_zero, List.setIfInBounds_toArray, List.set_cons_zero, List.set_cons_succ]
                  refine wpAnyH_take (i := 5) (oi := _) (v := ?_) rfl (by kernel_rfl) (by kernel_rfl) (by kernel_rfl) (fun _ _ _ h => h) (Or.inl ⟨by rfl, ?_⟩) trivial ?_
                  (rotate_left); (focus (intro wv hSw; clear hSw; go_simp; (try with_reducible rfl)))
                  try simp only [Act.put, List.getElem_toArray, List.getElem_cons_succ, List.getElem_cons_zero, List.setIfInBounds_toArray, List.set_cons_zero, List.set_cons_succ]
                  refine wpAnyH_ready (rs := [6]) (by kernel_rfl) (by simp) ?_
                  refine AllReadyH.cons (o := _) rfl (fun K hK => ?_) AllReadyH.nil
                  go_simp
                  refine hK.out _ _ trivial (fun hHeld => ?_)
                  clear hHeld hK K
                  try simp only [Act.put, List.getElem_toArray, List.getElem_cons_succ, List.getElem_cons_zero, List.setIfInBounds_toArray, List.set_cons_zero, List.set_cons_succ]
                  have hL : SOwn encHour (y0.alloc (.cells (encHour.enc ((-1), 0)).toArray 27)) w.heap.size 27 (some ⟨y0.heap.size, 0, none⟩) 1 [((-1), 0)] := SOwn.of_blk (E := encHour) (xs := [((-1), 0)]) (blk_new y0 (.cells (encHour.enc ((-1), 0)).toArray 27)) hzc rfl (by unfold maxLen; omega)
                  have hO_d := hO_c.alloc (.cells (encHour.enc ((-1), 0)).toArray 27)
                  have hz1 : w.heap.size ≤ (y0.alloc (.cells (encHour.enc ((-1), 0)).toArray 27)).heap.size := by simp; omega
                  refine wpAnyH_ready (rs := [12]) (by kernel_rfl) (by simp) ?_
                  refine AllReadyH.cons (o := _) rfl (fun K hK => ?_) AllReadyH.nil
                  rw [if_pos (by kernel_rfl)]
                  refine wp_append_own _ (.tmp 38) (.tmp 43) _ rfl w.heap.size 27 i0 _ 2 16 Try.underlying23 HI.out.1 HI.out.2.1 HI.out.2.2.1 HI.out.2.2.2 rfl (by omega) (.slice (some ⟨y0.heap.size, 0, none⟩) 1 1) 1 (encHour.flat [((-1), 0)]) rfl hL ⟨g, 2, none⟩ (m - 1) (cp - 1) (encHour.flat (xs.drop 1)) rfl (by rw [encHour.flat_len, HYL.out]; rfl) (SRow.newsK (SOwn.tailK hO_d)) (encHour.flat_one _) (by simp only [maxLen]; omega) (by omega) hz1 ?_; intro v9 w9 hown9 hgr9 hnil9
                  obtain ⟨A9, cap9, rfl⟩ := own_valK hown9
                  refine hK.out _ _ trivial (fun hHeld => ?_)
                  clear hHeld hK K
                  try simp only [Act.put, List.getElem_toArray, List.getElem_cons_succ, List.getElem_cons_zero, List.setIfInBounds_toArray, List.set_cons_zero, List.set_cons_succ]
                  refine wpAnyH_take (i := 13) (oi := _) (v := ?_) rfl (by kernel_rfl) (by kernel_rfl) (by kernel_rfl) (fun _ _ _ h => h) (Or.inl ⟨by rfl, ?_⟩) trivial ?_
                  (rotate_left); (focus (intro wv hSw; clear hSw; go_simp; (try with_reducible rfl)))
                  try simp only [Act.put, List.getElem_toArray, List.getElem_cons_succ, List.getElem_cons_zero, List.setIfInBounds_toArray, List.set_cons_zero, List.set_cons_succ]
                  refine wpAnyH_done (by kernel_rfl) ?_ _
                  go_wp2_with fail
                  go_ret
                  have hne : ∀ k, Value.ownBlock (.slice (some ⟨y0.heap.size, 0, none⟩) 1 1) = some k → B < k := fun k hk => by simp [Value.ownBlock] at hk; omega
                  exact ⟨((-1), 0) :: (xs.drop 1), A9, cap9, (by simp [HM.out]; try omega), (by simp [HM.out]; try omega), SOwn.of_raw (E := encHour) hown9 (by rw [encHour.flat_cons]; simp [Enc.flat]) (by simp [HM.out]; try omega), ((hR_c.alloc (.cells (encHour.enc ((-1), 0)).toArray 27)).farK hgr9 hne).mono (by omega), (hX_c.alloc (.cells (encHour.enc ((-1), 0)).toArray 27)).far_grownK hgr9 (fun k hk => by simp [Value.ownBlock] at hk; omega)⟩
                · obtain rfl : j2 = 1 := by omega
                  clear c2
                  refine wpAnyH_take (i := 3) (oi := _) (v := ?_) rfl (by kernel_rfl) (by kernel_rfl) (by kernel_rfl) (fun _ _ _ h => h) (Or.inl ⟨by rfl, ?_⟩) trivial ?_
                  (rotate_left); (focus (intro wv hSw; clear hSw; go_simp; (try with_reducible rfl)))
                  try simp only [Act.put, List.getElem_toArray, List.getElem_cons_succ, List.getElem_cons_zero, List.setIfInBounds_toArray, List.set_cons_zero, List.set_cons_succ]
                  refine wpAnyH_ready (rs := [4]) (by kernel_rfl) (by simp) ?_
                  refine AllReadyH.cons (o := _) rfl (fun K hK => ?_) AllReadyH.nil
                  go_simp
                  refine hK.out _ _ trivial (fun hHeld => ?_)
                  clear hHeld hK K
                  try simp only [Act.put, List.getElem_toArray, List.getElem_cons_succ, List.getElem_cons_zero, List.setIfInBounds_toArray, List.set_cons_zero, List.set_cons_succ]
                  refine wpAnyH_take (i := 5) (oi := _) (v := ?_) rfl (by kernel_rfl) (by kernel_rfl) (by kernel_rfl) (fun _ _ _ h => h) (Or.inl ⟨by rfl, ?_⟩) trivial ?_
                  (rotate_left); (focus (intro wv hSw; clear hSw; go_simp; (try with_reducible rfl)))
                  try simp only [Act.put, List.getElem_toArray, List.getElem_cons_succ, List.getElem_cons_zero, List.setIfInBounds_toArray, List.set_cons_zero, List.set_cons_succ]
                  refine wpAnyH_ready (rs := [6]) (by kernel_rfl) (by simp) ?_
                  refine AllReadyH.cons (o := _) rfl (fun K hK => ?_) AllReadyH.nil
                  go_simp
                  refine hK.out _ _ trivial (fun hHeld => ?_)
                  clear hHeld hK K
                  try simp only [Act.put, List.getElem_toArray, List.getElem_cons_succ, List.getElem_cons_zero, List.setIfInBounds_toArray, List.set_cons_zero, List.set_cons_succ]
                  have hL : SOwn encHour (y0.alloc (.cells (encHour.enc (21, 0)).toArray 27)) w.heap.size 27 (some ⟨y0.heap.size, 0, none⟩) 1 [(21, 0)] := SOwn.of_blk (E := encHour) (xs := [(21, 0)]) (blk_new y0 (.cells (encHour.enc (21, 0)).toArray 27)) hzc rfl (by unfold maxLen; omega)
                  have hO_d := hO_c.alloc (.cells (encHour.enc (21, 0)).toArray 27)
                  have hz1 : w.heap.size ≤ (y0.alloc (.cells (encHour.enc (21, 0)).toArray 27)).heap.size := by simp; omega
                  refine wpAnyH_ready (rs := [12]) (by kernel_rfl) (by simp) ?_
                  refine AllReadyH.cons (o := _) rfl (fun K hK => ?_) AllReadyH.nil
                  rw [if_pos (by kernel_rfl)]
                  refine wp_append_own _ (.tmp 38) (.tmp 43) _ rfl w.heap.size 27 i0 _ 2 16 Try.underlying23 HI.out.1 HI.out.2.1 HI.out.2.2.1 HI.out.2.2.2 rfl (by omega) (.slice (some ⟨y0.heap.size, 0, none⟩) 1 1) 1 (encHour.flat [(21, 0)]) rfl hL ⟨g, 2, none⟩ (m - 1) (cp - 1) (encHour.flat (xs.drop 1)) rfl (by rw [encHour.flat_len, HYL.out]; rfl) (SRow.newsK (SOwn.tailK hO_d)) (encHour.flat_one _) (by simp only [maxLen]; omega) (by omega) hz1 ?_; intro v9 w9 hown9 hgr9 hnil9
                  obtain ⟨A9, cap9, rfl⟩ := own_valK hown9
                  refine hK.out _ _ trivial (fun hHeld => ?_)
                  clear hHeld hK K
                  try simp only [Act.put, List.getElem_toArray, List.getElem_cons_succ, List.getElem_cons_zero, List.setIfInBounds_toArray, List.set_cons_zero, List.set_cons_succ]
                  refine wpAnyH_take (i := 13) (oi := _) (v := ?_) rfl (by kernel_rfl) (by kernel_rfl) (by kernel_rfl) (fun _ _ _ h => h) (Or.inl ⟨by rfl, ?_⟩) trivial ?_
                  (rotate_left); (focus (intro wv hSw; clear hSw; go_simp; (try with_reducible rfl)))
                  try simp only [Act.put, List.getElem_toArray, List.getElem_cons_succ, List.getElem_cons_zero, List.setIfInBounds_toArray, List.set_cons_zero, List.set_cons_succ]
                  refine wpAnyH_done (by kernel_rfl) ?_ _
                  go_wp2_with fail
                  go_ret
                  have hne : ∀ k, Value.ownBlock (.slice (some ⟨y0.heap.size, 0, none⟩) 1 1) = some k → B < k := fun k hk => by simp [Value.ownBlock] at hk; omega
                  exact ⟨(21, 0) :: (xs.drop 1), A9, cap9, (by simp [HM.out]; try omega), (by simp [HM.out]; try omega), SOwn.of_raw (E := encHour) hown9 (by rw [encHour.flat_cons]; simp [Enc.flat]) (by simp [HM.out]; try omega), ((hR_c.alloc (.cells (encHour.enc (21, 0)).toArray 27)).farK hgr9 hne).mono (by omega), (hX_c.alloc (.cells (encHour.enc (21, 0)).toArray 27)).far_grownK hgr9 (fun k hk => by simp [Value.ownBlock] at hk; omega)⟩
def StoredIs (B : Nat) (u : Int) (w : World) (e : Ending) (w' : World) : Prop :=
  ∃ (xs : List VHour) (A : Option Addr) (cap : Nat) (holds has : Int), e = .returned (.tuple #[.slice A xs.length cap, .int .i64 holds, .int .i64 has]) ∧ xs.length ≤ 11 ∧ (0 ≤ holds ∧ holds ≤ 300) ∧ (-100 ≤ has ∧ has ≤ 100) ∧ SOwn encHour w' w.heap.size 27 A cap xs ∧ RdU B u w' ∧ Ext B w w'
theorem quo39 {n : Int} (h0 : 0 ≤ n) (h1 : n ≤ 39) : 0 ≤ n.tdiv 39 ∧ n.tdiv 39 ≤ 1 := by rw [Int.tdiv_eq_ediv_of_nonneg h0]; omega
set_option maxHeartbeats 8000000 in
theorem stored_any (B : Nat) (u : Int) (w : World) (h : RdU B u w) (hu : u ≤ 500000) : Calls Try.prog 43 #[.pointer (some ⟨B, 0, none⟩)] w (StoredIs B (u + 50) w) := by
  have hBw := h.lt
  go_enter Try.func43, Try.ntmps43
  go_wp2_with fail
  refine (pick_any B u 60 _ h (by omega) (by omega) (by omega)).mono ?_; rintro e w1 ⟨a, rfl, a0, a1, h1, hx1⟩
  go_wp2_with fail
  refine (hours_any B (u + 1) 12 _ h1 (by omega) (by omega) (by omega)).mono ?_; rintro e w2 ⟨xs, A, cp, rfl, hx6, hO2, h2, hx2⟩
  obtain ⟨m, hm⟩ : ∃ m, xs.length = m := ⟨_, rfl⟩
  rw [hm] at hx6 ⊢
  have HM := Lib.hid hm
  clear hm
  have hX2 := hx1.trans hx2
  go_wp2_with fail
  refine (pick_any B _ 40 _ h2 (by omega) (by omega) (by omega)).mono ?_; rintro e w3 ⟨c, rfl, c0, c1, h3, hx3⟩
  have hO3 := hO2.extK hx3 (h1.lt)
  have hX3 := hX2.trans hx3
  obtain ⟨qc0, qc1⟩ := quo39 c0 (by omega)
  obtain ⟨qc, hqc⟩ : ∃ q, Int.tdiv c 39 = q := ⟨_, rfl⟩
  rw [hqc] at qc0 qc1
  go_wp2_with fail
  refine (pick_any B _ (a + 1) _ h3 (by omega) (by omega) (by omega)).mono ?_; rintro e w4 ⟨d, rfl, d0, d1, h4, hx4⟩
  have hO4 := hO3.extK hx4 (h1.lt)
  have hX4 := hX3.trans hx4
  go_wp2_with fail
  refine (pick_any B _ 40 _ h4 (by omega) (by omega) (by omega)).mono ?_; rintro e w5 ⟨f, rfl, f0, f1, h5, hx5⟩
  have hO5 := hO4.extK hx5 (h1.lt)
  have hX5 := hX4.trans hx5
  obtain ⟨qf0, qf1⟩ := quo39 f0 (by omega)
  obtain ⟨qf, hqf⟩ : ∃ q, Int.tdiv f 39 = q := ⟨_, rfl⟩
  rw [hqf] at qf0 qf1
  go_wp2
  go_ret3
  exact ⟨xs, A, cp, a + qc * 200, d - qf * 60, (by rw [HM.out]; rfl), (by rw [HM.out]; exact hx6), by omega, by omega, hO5.mono hx1.size, h5.mono (by omega), hX5⟩
def DrewHours (w : World) (e : Ending) (w' : World) : Prop := ∃ (xs : List VHour) (A : Option Addr) (cap : Nat), e = .returned (.slice A xs.length cap) ∧ xs.length ≤ 11 ∧ SOwn encHour w' w.heap.size 27 A cap xs ∧ Below w.heap.size w w'
def DrewStored (w : World) (e : Ending) (w' : World) : Prop := ∃ (xs : List VHour) (A : Option Addr) (cap : Nat) (holds has : Int), e = .returned (.tuple #[.slice A xs.length cap, .int .i64 holds, .int .i64 has]) ∧ xs.length ≤ 11 ∧ (0 ≤ holds ∧ holds ≤ 300) ∧ (-100 ≤ has ∧ has ≤ 100) ∧ SOwn encHour w' w.heap.size 27 A cap xs ∧ Below w.heap.size w w'
set_option maxHeartbeats 4000000 in
theorem drHoursValid_any (a : Option Addr) (len cap : Nat) (w : World) (h : CodeOk w a len cap) : Calls Try.prog 11 #[.slice a len cap] w (DrewHours w) := by
  go_enter Try.func11, Try.ntmps11
  go_wp2_with fail
  refine (open_any _ _ _ _ h).mono ?_; rintro e w1 ⟨B, rfl, hB, h1, hb1⟩
  go_wp2_with fail
  refine (hours_any B 0 2 _ h1 (by omega) (by omega) (by omega)).mono ?_; rintro e w2 ⟨xs, A, cp, rfl, hx6, hO, _, hx⟩
  have hB2 := hb1.trans (hx.below (N := w.heap.size) (by omega) hb1.size)
  have hO2 := hO.mono hb1.size
  go_wp2_with fail
  go_ret
  exact ⟨xs, A, cp, rfl, hx6, hO2, hB2⟩
set_option maxHeartbeats 4000000 in
theorem drStoreFor_any (a : Option Addr) (len cap : Nat) (w : World) (h : CodeOk w a len cap) : Calls Try.prog 25 #[.slice a len cap] w (DrewHours w) := by
  go_enter Try.func25, Try.ntmps25
  go_wp2_with fail
  refine (open_any _ _ _ _ h).mono ?_; rintro e w1 ⟨B, rfl, hB, h1, hb1⟩
  go_wp2_with fail
  refine (hours_any B 0 9 _ h1 (by omega) (by omega) (by omega)).mono ?_; rintro e w2 ⟨xs, A, cp, rfl, hx6, hO, _, hx⟩
  have hB2 := hb1.trans (hx.below (N := w.heap.size) (by omega) hb1.size)
  have hO2 := hO.mono hb1.size
  go_wp2_with fail
  go_ret
  exact ⟨xs, A, cp, rfl, hx6, hO2, hB2⟩
set_option maxHeartbeats 4000000 in
theorem drStoreGap_any (a : Option Addr) (len cap : Nat) (w : World) (h : CodeOk w a len cap) : Calls Try.prog 29 #[.slice a len cap] w (DrewHours w) := by
  go_enter Try.func29, Try.ntmps29
  go_wp2_with fail
  refine (open_any _ _ _ _ h).mono ?_; rintro e w1 ⟨B, rfl, hB, h1, hb1⟩
  go_wp2_with fail
  refine (hours_any B 0 9 _ h1 (by omega) (by omega) (by omega)).mono ?_; rintro e w2 ⟨xs, A, cp, rfl, hx6, hO, _, hx⟩
  have hB2 := hb1.trans (hx.below (N := w.heap.size) (by omega) hb1.size)
  have hO2 := hO.mono hb1.size
  go_wp2_with fail
  go_ret
  exact ⟨xs, A, cp, rfl, hx6, hO2, hB2⟩
set_option maxHeartbeats 4000000 in
theorem drStoreRun_any (a : Option Addr) (len cap : Nat) (w : World) (h : CodeOk w a len cap) : Calls Try.prog 15 #[.slice a len cap] w (DrewStored w) := by
  go_enter Try.func15, Try.ntmps15
  go_wp2_with fail
  refine (open_any _ _ _ _ h).mono ?_; rintro e w1 ⟨B, rfl, hB, h1, hb1⟩
  go_wp2_with fail
  refine (stored_any B 0 _ h1 (by omega)).mono ?_; rintro e w2 ⟨xs, A, cp, holds, has, rfl, hx6, hh, hs, hO, _, hx⟩
  have hB2 := hb1.trans (hx.below (N := w.heap.size) (by omega) hb1.size)
  have hO2 := hO.mono hb1.size
  go_wp2_with fail
  go_ret3
  exact ⟨xs, A, cp, holds, has, rfl, hx6, hh, hs, hO2, hB2⟩
set_option maxHeartbeats 4000000 in
theorem drStoreLack_any (a : Option Addr) (len cap : Nat) (w : World) (h : CodeOk w a len cap) : Calls Try.prog 19 #[.slice a len cap] w (DrewStored w) := by
  go_enter Try.func19, Try.ntmps19
  go_wp2_with fail
  refine (open_any _ _ _ _ h).mono ?_; rintro e w1 ⟨B, rfl, hB, h1, hb1⟩
  go_wp2_with fail
  refine (stored_any B 0 _ h1 (by omega)).mono ?_; rintro e w2 ⟨xs, A, cp, holds, has, rfl, hx6, hh, hs, hO, _, hx⟩
  have hB2 := hb1.trans (hx.below (N := w.heap.size) (by omega) hb1.size)
  have hO2 := hO.mono hb1.size
  go_wp2_with fail
  go_ret3
  exact ⟨xs, A, cp, holds, has, rfl, hx6, hh, hs, hO2, hB2⟩
set_option maxHeartbeats 4000000 in
theorem drStoreLost_any (a : Option Addr) (len cap : Nat) (w : World) (h : CodeOk w a len cap) : Calls Try.prog 23 #[.slice a len cap] w (DrewStored w) := by
  go_enter Try.func23, Try.ntmps23
  go_wp2_with fail
  refine (open_any _ _ _ _ h).mono ?_; rintro e w1 ⟨B, rfl, hB, h1, hb1⟩
  go_wp2_with fail
  refine (stored_any B 0 _ h1 (by omega)).mono ?_; rintro e w2 ⟨xs, A, cp, holds, has, rfl, hx6, hh, hs, hO, _, hx⟩
  have hB2 := hb1.trans (hx.below (N := w.heap.size) (by omega) hb1.size)
  have hO2 := hO.mono hb1.size
  go_wp2_with fail
  go_ret3
  exact ⟨xs, A, cp, holds, has, rfl, hx6, hh, hs, hO2, hB2⟩
end Go.Proofs.Ytfgaggdiepielab
