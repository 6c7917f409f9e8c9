/- Loads that are drawn. -/
import Derived.Test.YtibpaojhjgpdaaaZd
import Derived.Test.YtibpaojhjgpdaaaGLoad
namespace Go.Proofs.Ytibpaojhjgpdaaa
open Go Go.ChangeShapes Go.WideShapes Go.ChangeAt Go.RowKit
set_option linter.unusedSimpArgs false
set_option linter.unusedVariables false

theorem infoLoad7 : (Try.prog.info? 72).map (fun i => (i.zero, i.size, i.bytes)) = some (some (.agg #[.int .i64 0, .int .i64 0]), 2, 16) := by kernel_rfl
def LoadsIs (B : Nat) (u : Int) (w : World) (e : Ending) (w' : World) : Prop :=
  ∃ (xs : List VLoad) (A : Option Addr) (cap : Nat), e = .returned (.slice A xs.length cap) ∧ xs.length ≤ 8 ∧ SOwn encLoad w' w.heap.size 72 A cap xs ∧ RdU B u w' ∧ Ext B w w'
set_option maxRecDepth 100000 in
set_option maxHeartbeats 8000000 in
theorem loads_any (B : Nat) (u n : Int) (w : World) (h : RdU B u w) (hu : u ≤ 600000) (hn : 0 ≤ n) (hn1 : n ≤ 1000000) : Calls Try.prog 65 #[.pointer (some ⟨B, 0, none⟩), .int .i64 n] w (LoadsIs B (u + 20) w) := by
  have hBw := h.lt
  obtain ⟨i0, hi0, hz0, hz1, hz2⟩ := info_parts infoLoad
  have HI := Lib.hid (And.intro hi0 (And.intro hz0 (And.intro hz1 hz2)))
  clear hi0 hz0 hz1 hz2
  go_enter Try.func65, Try.ntmps65
  go_wp2_with fail
  refine (pick_any B u 8 _ (h.alloc _) (by omega) (by omega) (by omega)).mono ?_; rintro e w1 ⟨k0, rfl, k00, k01, h1, hx1⟩
  have hO1 := (SOwn.empty (E := encLoad) (blk_new w (.cells #[] 72)) (Nat.le_refl _)).extK hx1 hBw
  have hE1 := ((Ext.refl B w).alloc (.cells #[] 72)).trans hx1
  go_wp2_with fail
  go_loopw [5, 6] (fun vo vk wr => ∃ (k : Int) (xs : List VLoad) (g cp m : Nat), vk = .int .i64 k ∧ vo = .slice (some ⟨g, 0, none⟩) m cp ∧ 0 ≤ k ∧ (m : Int) + k ≤ 7 ∧ Hid (xs.length = m) ∧ SOwn encLoad wr w.heap.size 72 (some ⟨g, 0, none⟩) cp xs ∧ RdU B (u + 1 + 2 * (7 - k)) wr ∧ Ext B w wr) (fun _ vk _ => (intOf vk).toNat)
  case atStart => exact ⟨k0, [], _, 0, 0, rfl, rfl, k00, by omega, (by show _ = _; rfl), hO1, h1.mono (by omega), hE1⟩
  case round =>
    obtain ⟨k, xs, g, cp, m, rfl, rfl, k0', mk, HM, hO, hR, hX⟩ := hrel
    by_cases hk : 0 < k
    · go_wp2_with fail
      refine (pick_any B _ 10 _ hR (by omega) (by omega) (by omega)).mono ?_; rintro e w2 ⟨a, rfl, a0, a1, h2, hx2⟩
      have hO2 := hO.extK hx2 hBw
      have hX2 := hX.trans hx2
      go_wp2_with fail
      refine (pick_any B _ 4 _ h2 (by omega) (by omega) (by omega)).mono ?_; rintro e w3 ⟨c, rfl, c0, c1, h3, hx3⟩
      have hO3 := hO2.extK hx3 hBw
      have hX3 := hX2.trans hx3
      by_cases hac : 9 < a + c
      · have hw9 : IntKind.i64.wrap (a + c) = a + c := IntWalk.i64_in _ (by omega)
        have hif9 : (if (9 : Int) < a + c then (9 : Int) else a + c) = 9 := if_pos hac
        have hz3 := hX3.size
        go_wp2_with (at_builtin; refine wpList_append_lies _ rfl (.tmp 17) (.tmp 25) _ rfl w.heap.size 72 i0 _ 2 16 Try.underlying46 HI.out.1 HI.out.2.1 HI.out.2.2.1 HI.out.2.2.2 rfl (by omega) (.slice (some ⟨g, 0, none⟩) m cp) m (encLoad.flat xs) rfl (by have q := hO3.alloc (.cells (encLoad.enc (a, 9)).toArray 72); unfold SOwn at q; rw [HM.out] at q; exact q) ⟨w3.heap.size, 0, none⟩ 1 1 (encLoad.enc (a, 9)) rfl rfl (new_enc (E := encLoad) w3 (a, 9) _) (encLoad.one _) (by omega) (by simp only [maxLen]; omega) (by omega) (by simp; omega) _ rfl ?_; intro g5 cap5 w7 hown5 hgr5 hat5 hlt5)
        have hne : ∀ k, Value.ownBlock (.slice (some ⟨g, 0, none⟩) m cp) = some k → B < k := fun k hk => by have := SOwn.ge_baseK (hO3.alloc (.cells (encLoad.enc (a, 9)).toArray 72)) k hk; omega
        have hB5 := (h3.alloc (.cells (encLoad.enc (a, 9)).toArray 72)).farK hgr5 hne
        have hE5 := (hX3.alloc (.cells (encLoad.enc (a, 9)).toArray 72)).far_grownK hgr5 (SOwn.ge_baseK (hO3.alloc (.cells (encLoad.enc (a, 9)).toArray 72)))
        go_wp2_with fail
        go_roundw
        case rel => exact ⟨k - 1, xs ++ [(a, 9)], g5, cap5, m + 1, by go_num, rfl, by omega, by push_cast; omega, (by show _ = _; rw [List.length_append, HM.out]; rfl), SOwn.snoc (E := encLoad) (by rw [HM.out]; exact hown5), hB5.mono (by omega), hE5⟩
        case measure => simp [intOf]; omega
      · have hw9 : IntKind.i64.wrap (a + c) = a + c := IntWalk.i64_in _ (by omega)
        have hif9 : (if (9 : Int) < a + c then (9 : Int) else a + c) = a + c := if_neg hac
        have hz3 := hX3.size
        go_wp2_with (at_builtin; refine wpList_append_lies _ rfl (.tmp 17) (.tmp 25) _ rfl w.heap.size 72 i0 _ 2 16 Try.underlying46 HI.out.1 HI.out.2.1 HI.out.2.2.1 HI.out.2.2.2 rfl (by omega) (.slice (some ⟨g, 0, none⟩) m cp) m (encLoad.flat xs) rfl (by have q := hO3.alloc (.cells (encLoad.enc (a, a + c)).toArray 72); unfold SOwn at q; rw [HM.out] at q; exact q) ⟨w3.heap.size, 0, none⟩ 1 1 (encLoad.enc (a, a + c)) rfl rfl (new_enc (E := encLoad) w3 (a, a + c) _) (encLoad.one _) (by omega) (by simp only [maxLen]; omega) (by omega) (by simp; omega) _ rfl ?_; intro g5 cap5 w7 hown5 hgr5 hat5 hlt5)
        have hne : ∀ k, Value.ownBlock (.slice (some ⟨g, 0, none⟩) m cp) = some k → B < k := fun k hk => by have := SOwn.ge_baseK (hO3.alloc (.cells (encLoad.enc (a, a + c)).toArray 72)) k hk; omega
        have hB5 := (h3.alloc (.cells (encLoad.enc (a, a + c)).toArray 72)).farK hgr5 hne
        have hE5 := (hX3.alloc (.cells (encLoad.enc (a, a + c)).toArray 72)).far_grownK hgr5 (SOwn.ge_baseK (hO3.alloc (.cells (encLoad.enc (a, a + c)).toArray 72)))
        go_wp2_with fail
        go_roundw
        case rel => exact ⟨k - 1, xs ++ [(a, a + c)], g5, cap5, m + 1, by go_num, rfl, by omega, by push_cast; omega, (by show _ = _; rw [List.length_append, HM.out]; rfl), SOwn.snoc (E := encLoad) (by rw [HM.out]; exact hown5), hB5.mono (by omega), hE5⟩
        case measure => simp [intOf]; omega
    · obtain rfl : k = 0 := by omega
      have hm5 : m ≤ 7 := by omega
      go_wp2_with fail
      refine (odd0_any B _ n _ hR (by omega) hn hn1).mono ?_; rintro e w3 ⟨b, rfl, h3, hx3⟩
      have hO3 := hO.extK hx3 hBw
      have hX3 := hX.trans hx3
      cases b
      · go_wp2_with fail
        go_ret
        exact ⟨xs, _, cp, (by rw [HM.out]; rfl), (by rw [HM.out]; omega), hO3, h3.mono (by omega), hX3⟩
      · go_wp2_with fail
        refine (pick_any B _ 3 _ h3 (by omega) (by omega) (by omega)).mono ?_; rintro e w4 ⟨j, rfl, j0, j1, h4, hx4⟩
        have hO4 := hO3.extK hx4 hBw
        have hX4 := hX3.trans hx4
        have hz4 := hX4.size
        by_cases c : j = 0
        · subst c
          go_wp2_with (at_make; refine wpList_make_structs _ encLoad (0, 0) rfl _ _ 46 rfl 72 i0 _ Try.underlying46 HI.out.1 HI.out.2.1 HI.out.2.2.1 rfl .i64 .i64 8 rfl rfl (by rw [HI.out.2.2.2]; omega) (by omega) ?_)
          go_ret
          exact ⟨List.replicate 8 (0, 0), _, 8, by simp, by simp, SOwn.of_blk (E := encLoad) (blk_new w4 _) hz4 (by simp) (by unfold maxLen; omega), (h4.alloc _).mono (by omega), hX4.alloc _⟩
        · have e0 : (j == 0) = false := by rw [beq_eq_false_iff_ne]; omega
          by_cases d : j = 1
          · subst d
            clear c
            obtain ⟨hcp, _⟩ := hO4.cap
            rw [HM.out] at hcp
            by_cases hm0 : m = 0
            · subst hm0
              have HYL : Hid (([] : List VLoad).length = 0) := by show _ = _; rfl
              have hL : SOwn encLoad (w4.alloc (.cells (encLoad.enc (3, 2)).toArray 72)) w.heap.size 72 (some ⟨w4.heap.size, 0, none⟩) 1 [(3, 2)] := SOwn.of_blk (E := encLoad) (xs := [(3, 2)]) (blk_new w4 (.cells (encLoad.enc (3, 2)).toArray 72)) hz4 rfl (by unfold maxLen; omega)
              have hO_d := hO4.alloc (.cells (encLoad.enc (3, 2)).toArray 72)
              have hz9 : w.heap.size ≤ (w4.alloc (.cells (encLoad.enc (3, 2)).toArray 72)).heap.size := by simp; omega
              have hB4 := h4.lt
              go_wp2_with (at_builtin; refine wpList_append_own _ rfl (.tmp 46) (.tmp 51) _ rfl w.heap.size 72 i0 _ 2 16 Try.underlying46 HI.out.1 HI.out.2.1 HI.out.2.2.1 HI.out.2.2.2 rfl (by omega) (.slice (some ⟨w4.heap.size, 0, none⟩) 1 1) 1 (encLoad.flat [(3, 2)]) rfl hL ⟨g, 0, none⟩ 0 cp (encLoad.flat ([] : List VLoad)) rfl (by rw [encLoad.flat_len, HYL.out]; rfl) (by intro j u hu; simp [Enc.flat] at hu) (encLoad.flat_one _) (by simp only [maxLen]; omega) (by omega) hz9 ?_; intro v9 w9 hown9 hgr9 hnil9)
              obtain ⟨A9, cap9, rfl⟩ := own_valK hown9
              go_wp2_with fail
              go_ret
              have hne : ∀ k, Value.ownBlock (.slice (some ⟨w4.heap.size, 0, none⟩) 1 1) = some k → B < k := fun k hk => by simp [Value.ownBlock] at hk; omega
              exact ⟨(3, 2) :: ([] : List VLoad), A9, cap9, (by simp [HM.out]; try omega), (by simp [HM.out]; try omega), SOwn.of_raw (E := encLoad) hown9 (by rw [encLoad.flat_cons]; simp [Enc.flat]) (by simp [HM.out]; try omega), ((h4.alloc (.cells (encLoad.enc (3, 2)).toArray 72)).farK hgr9 hne).mono (by omega), (hX4.alloc (.cells (encLoad.enc (3, 2)).toArray 72)).far_grownK hgr9 (fun k hk => by simp [Value.ownBlock] at hk; omega)⟩
            · have hm1 : 1 ≤ m := by omega
              have hmi : (1 : Int) ≤ (m : Int) := by omega
              have hml : ¬ (m : Int) < 1 := by omega
              by_cases hc : cp = 1
              · obtain rfl : m = 1 := by omega
                have HYL : Hid (([] : List VLoad).length = 0) := by show _ = _; rfl
                have hL : SOwn encLoad (w4.alloc (.cells (encLoad.enc (3, 2)).toArray 72)) w.heap.size 72 (some ⟨w4.heap.size, 0, none⟩) 1 [(3, 2)] := SOwn.of_blk (E := encLoad) (xs := [(3, 2)]) (blk_new w4 (.cells (encLoad.enc (3, 2)).toArray 72)) hz4 rfl (by unfold maxLen; omega)
                have hO_d := hO4.alloc (.cells (encLoad.enc (3, 2)).toArray 72)
                have hz9 : w.heap.size ≤ (w4.alloc (.cells (encLoad.enc (3, 2)).toArray 72)).heap.size := by simp; omega
                have hB4 := h4.lt
                go_wp2_with (at_builtin; refine wpList_append_own _ rfl (.tmp 46) (.tmp 51) _ rfl w.heap.size 72 i0 _ 2 16 Try.underlying46 HI.out.1 HI.out.2.1 HI.out.2.2.1 HI.out.2.2.2 rfl (by omega) (.slice (some ⟨w4.heap.size, 0, none⟩) 1 1) 1 (encLoad.flat [(3, 2)]) rfl hL ⟨g, 0, none⟩ 0 0 (encLoad.flat ([] : List VLoad)) rfl (by rw [encLoad.flat_len, HYL.out]; rfl) (by intro j u hu; simp [Enc.flat] at hu) (encLoad.flat_one _) (by simp only [maxLen]; omega) (by omega) hz9 ?_; intro v9 w9 hown9 hgr9 hnil9)
                obtain ⟨A9, cap9, rfl⟩ := own_valK hown9
                go_wp2_with fail
                go_ret
                have hne : ∀ k, Value.ownBlock (.slice (some ⟨w4.heap.size, 0, none⟩) 1 1) = some k → B < k := fun k hk => by simp [Value.ownBlock] at hk; omega
                exact ⟨(3, 2) :: ([] : List VLoad), A9, cap9, (by simp [HM.out]; try omega), (by simp [HM.out]; try omega), SOwn.of_raw (E := encLoad) hown9 (by rw [encLoad.flat_cons]; simp [Enc.flat]) (by simp [HM.out]; try omega), ((h4.alloc (.cells (encLoad.enc (3, 2)).toArray 72)).farK hgr9 hne).mono (by omega), (hX4.alloc (.cells (encLoad.enc (3, 2)).toArray 72)).far_grownK hgr9 (fun k hk => by simp [Value.ownBlock] at hk; omega)⟩
              · have HYL : Hid ((xs.drop 1).length = m - 1) := by show _ = _; rw [List.length_drop, HM.out]
                have hL : SOwn encLoad (w4.alloc (.cells (encLoad.enc (3, 2)).toArray 72)) w.heap.size 72 (some ⟨w4.heap.size, 0, none⟩) 1 [(3, 2)] := SOwn.of_blk (E := encLoad) (xs := [(3, 2)]) (blk_new w4 (.cells (encLoad.enc (3, 2)).toArray 72)) hz4 rfl (by unfold maxLen; omega)
                have hO_d := hO4.alloc (.cells (encLoad.enc (3, 2)).toArray 72)
                have hz9 : w.heap.size ≤ (w4.alloc (.cells (encLoad.enc (3, 2)).toArray 72)).heap.size := by simp; omega
                have hB4 := h4.lt
                go_wp2_with (at_builtin; refine wpList_append_own _ rfl (.tmp 46) (.tmp 51) _ rfl w.heap.size 72 i0 _ 2 16 Try.underlying46 HI.out.1 HI.out.2.1 HI.out.2.2.1 HI.out.2.2.2 rfl (by omega) (.slice (some ⟨w4.heap.size, 0, none⟩) 1 1) 1 (encLoad.flat [(3, 2)]) rfl hL ⟨g, 2, none⟩ (m - 1) (cp - 1) (encLoad.flat (xs.drop 1)) rfl (by rw [encLoad.flat_len, HYL.out]; rfl) (SRow.newsK (SOwn.tailK hO_d)) (encLoad.flat_one _) (by simp only [maxLen]; omega) (by omega) hz9 ?_; intro v9 w9 hown9 hgr9 hnil9)
                obtain ⟨A9, cap9, rfl⟩ := own_valK hown9
                go_wp2_with fail
                go_ret
                have hne : ∀ k, Value.ownBlock (.slice (some ⟨w4.heap.size, 0, none⟩) 1 1) = some k → B < k := fun k hk => by simp [Value.ownBlock] at hk; omega
                exact ⟨(3, 2) :: (xs.drop 1), A9, cap9, (by simp [HM.out]; try omega), (by simp [HM.out]; try omega), SOwn.of_raw (E := encLoad) hown9 (by rw [encLoad.flat_cons]; simp [Enc.flat]) (by simp [HM.out]; try omega), ((h4.alloc (.cells (encLoad.enc (3, 2)).toArray 72)).farK hgr9 hne).mono (by omega), (hX4.alloc (.cells (encLoad.enc (3, 2)).toArray 72)).far_grownK hgr9 (fun k hk => by simp [Value.ownBlock] at hk; omega)⟩
          · have e1 : (j == 1) = false := by rw [beq_eq_false_iff_ne]; omega
            clear c d
            obtain ⟨hcp, _⟩ := hO4.cap
            rw [HM.out] at hcp
            by_cases hm0 : m = 0
            · subst hm0
              have HYL : Hid (([] : List VLoad).length = 0) := by show _ = _; rfl
              have hL : SOwn encLoad (w4.alloc (.cells (encLoad.enc (3, 10)).toArray 72)) w.heap.size 72 (some ⟨w4.heap.size, 0, none⟩) 1 [(3, 10)] := SOwn.of_blk (E := encLoad) (xs := [(3, 10)]) (blk_new w4 (.cells (encLoad.enc (3, 10)).toArray 72)) hz4 rfl (by unfold maxLen; omega)
              have hO_d := hO4.alloc (.cells (encLoad.enc (3, 10)).toArray 72)
              have hz9 : w.heap.size ≤ (w4.alloc (.cells (encLoad.enc (3, 10)).toArray 72)).heap.size := by simp; omega
              have hB4 := h4.lt
              go_wp2_with (at_builtin; refine wpList_append_own _ rfl (.tmp 33) (.tmp 38) _ rfl w.heap.size 72 i0 _ 2 16 Try.underlying46 HI.out.1 HI.out.2.1 HI.out.2.2.1 HI.out.2.2.2 rfl (by omega) (.slice (some ⟨w4.heap.size, 0, none⟩) 1 1) 1 (encLoad.flat [(3, 10)]) rfl hL ⟨g, 0, none⟩ 0 cp (encLoad.flat ([] : List VLoad)) rfl (by rw [encLoad.flat_len, HYL.out]; rfl) (by intro j u hu; simp [Enc.flat] at hu) (encLoad.flat_one _) (by simp only [maxLen]; omega) (by omega) hz9 ?_; intro v9 w9 hown9 hgr9 hnil9)
              obtain ⟨A9, cap9, rfl⟩ := own_valK hown9
              go_wp2_with fail
              go_ret
              have hne : ∀ k, Value.ownBlock (.slice (some ⟨w4.heap.size, 0, none⟩) 1 1) = some k → B < k := fun k hk => by simp [Value.ownBlock] at hk; omega
              exact ⟨(3, 10) :: ([] : List VLoad), A9, cap9, (by simp [HM.out]; try omega), (by simp [HM.out]; try omega), SOwn.of_raw (E := encLoad) hown9 (by rw [encLoad.flat_cons]; simp [Enc.flat]) (by simp [HM.out]; try omega), ((h4.alloc (.cells (encLoad.enc (3, 10)).toArray 72)).farK hgr9 hne).mono (by omega), (hX4.alloc (.cells (encLoad.enc (3, 10)).toArray 72)).far_grownK hgr9 (fun k hk => by simp [Value.ownBlock] at hk; omega)⟩
            · have hm1 : 1 ≤ m := by omega
              have hmi : (1 : Int) ≤ (m : Int) := by omega
              have hml : ¬ (m : Int) < 1 := by omega
              by_cases hc : cp = 1
              · obtain rfl : m = 1 := by omega
                have HYL : Hid (([] : List VLoad).length = 0) := by show _ = _; rfl
                have hL : SOwn encLoad (w4.alloc (.cells (encLoad.enc (3, 10)).toArray 72)) w.heap.size 72 (some ⟨w4.heap.size, 0, none⟩) 1 [(3, 10)] := SOwn.of_blk (E := encLoad) (xs := [(3, 10)]) (blk_new w4 (.cells (encLoad.enc (3, 10)).toArray 72)) hz4 rfl (by unfold maxLen; omega)
                have hO_d := hO4.alloc (.cells (encLoad.enc (3, 10)).toArray 72)
                have hz9 : w.heap.size ≤ (w4.alloc (.cells (encLoad.enc (3, 10)).toArray 72)).heap.size := by simp; omega
                have hB4 := h4.lt
                go_wp2_with (at_builtin; refine wpList_append_own _ rfl (.tmp 33) (.tmp 38) _ rfl w.heap.size 72 i0 _ 2 16 Try.underlying46 HI.out.1 HI.out.2.1 HI.out.2.2.1 HI.out.2.2.2 rfl (by omega) (.slice (some ⟨w4.heap.size, 0, none⟩) 1 1) 1 (encLoad.flat [(3, 10)]) rfl hL ⟨g, 0, none⟩ 0 0 (encLoad.flat ([] : List VLoad)) rfl (by rw [encLoad.flat_len, HYL.out]; rfl) (by intro j u hu; simp [Enc.flat] at hu) (encLoad.flat_one _) (by simp only [maxLen]; omega) (by omega) hz9 ?_; intro v9 w9 hown9 hgr9 hnil9)
                obtain ⟨A9, cap9, rfl⟩ := own_valK hown9
                go_wp2_with fail
                go_ret
                have hne : ∀ k, Value.ownBlock (.slice (some ⟨w4.heap.size, 0, none⟩) 1 1) = some k → B < k := fun k hk => by simp [Value.ownBlock] at hk; omega
                exact ⟨(3, 10) :: ([] : List VLoad), A9, cap9, (by simp [HM.out]; try omega), (by simp [HM.out]; try omega), SOwn.of_raw (E := encLoad) hown9 (by rw [encLoad.flat_cons]; simp [Enc.flat]) (by simp [HM.out]; try omega), ((h4.alloc (.cells (encLoad.enc (3, 10)).toArray 72)).farK hgr9 hne).mono (by omega), (hX4.alloc (.cells (encLoad.enc (3, 10)).toArray 72)).far_grownK hgr9 (fun k hk => by simp [Value.ownBlock] at hk; omega)⟩
              · have HYL : Hid ((xs.drop 1).length = m - 1) := by show _ = _; rw [List.length_drop, HM.out]
                have hL : SOwn encLoad (w4.alloc (.cells (encLoad.enc (3, 10)).toArray 72)) w.heap.size 72 (some ⟨w4.heap.size, 0, none⟩) 1 [(3, 10)] := SOwn.of_blk (E := encLoad) (xs := [(3, 10)]) (blk_new w4 (.cells (encLoad.enc (3, 10)).toArray 72)) hz4 rfl (by unfold maxLen; omega)
                have hO_d := hO4.alloc (.cells (encLoad.enc (3, 10)).toArray 72)
                have hz9 : w.heap.size ≤ (w4.alloc (.cells (encLoad.enc (3, 10)).toArray 72)).heap.size := by simp; omega
                have hB4 := h4.lt
                go_wp2_with (at_builtin; refine wpList_append_own _ rfl (.tmp 33) (.tmp 38) _ rfl w.heap.size 72 i0 _ 2 16 Try.underlying46 HI.out.1 HI.out.2.1 HI.out.2.2.1 HI.out.2.2.2 rfl (by omega) (.slice (some ⟨w4.heap.size, 0, none⟩) 1 1) 1 (encLoad.flat [(3, 10)]) rfl hL ⟨g, 2, none⟩ (m - 1) (cp - 1) (encLoad.flat (xs.drop 1)) rfl (by rw [encLoad.flat_len, HYL.out]; rfl) (SRow.newsK (SOwn.tailK hO_d)) (encLoad.flat_one _) (by simp only [maxLen]; omega) (by omega) hz9 ?_; intro v9 w9 hown9 hgr9 hnil9)
                obtain ⟨A9, cap9, rfl⟩ := own_valK hown9
                go_wp2_with fail
                go_ret
                have hne : ∀ k, Value.ownBlock (.slice (some ⟨w4.heap.size, 0, none⟩) 1 1) = some k → B < k := fun k hk => by simp [Value.ownBlock] at hk; omega
                exact ⟨(3, 10) :: (xs.drop 1), A9, cap9, (by simp [HM.out]; try omega), (by simp [HM.out]; try omega), SOwn.of_raw (E := encLoad) hown9 (by rw [encLoad.flat_cons]; simp [Enc.flat]) (by simp [HM.out]; try omega), ((h4.alloc (.cells (encLoad.enc (3, 10)).toArray 72)).farK hgr9 hne).mono (by omega), (hX4.alloc (.cells (encLoad.enc (3, 10)).toArray 72)).far_grownK hgr9 (fun k hk => by simp [Value.ownBlock] at hk; omega)⟩
def DrewLoads (w : World) (e : Ending) (w' : World) : Prop := ∃ (xs : List VLoad) (A : Option Addr) (cap : Nat), e = .returned (.slice A xs.length cap) ∧ xs.length ≤ 8 ∧ SOwn encLoad w' w.heap.size 72 A cap xs ∧ Below w.heap.size w w'
end Go.Proofs.Ytibpaojhjgpdaaa
