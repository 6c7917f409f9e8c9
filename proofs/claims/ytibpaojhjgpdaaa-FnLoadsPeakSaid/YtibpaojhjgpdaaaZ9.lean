/- Loads that are drawn, with bounds, and DrawLoadsPeak. -/
import Derived.Test.YtibpaojhjgpdaaaZy
import Derived.Test.YtibpaojhjgpdaaaKf
import Derived.RegionTactic
namespace Go.Proofs.Ytibpaojhjgpdaaa
open Go Go.ChangeShapes Go.WideShapes Go.ChangeAt Go.RowKit
set_option linter.unusedSimpArgs false
set_option linter.unusedVariables false

def LdQ (v : VLoad) : Prop := (0 ≤ v.1 ∧ v.1 ≤ 10) ∧ (0 ≤ v.2 ∧ v.2 ≤ 10)
theorem ldq_nil : ∀ v ∈ ([] : List VLoad), LdQ v := by intro v hv; cases hv
theorem ldq_cons {v : VLoad} {xs : List VLoad} (h : LdQ v) (hx : ∀ u ∈ xs, LdQ u) : ∀ u ∈ v :: xs, LdQ u := by
  intro u hu; rcases List.mem_cons.1 hu with rfl | hu; exact h; exact hx u hu
theorem ldq_snoc {v : VLoad} {xs : List VLoad} (hx : ∀ u ∈ xs, LdQ u) (h : LdQ v) : ∀ u ∈ xs ++ [v], LdQ u := by
  intro u hu; rcases List.mem_append.1 hu with hu | hu; exact hx u hu; rw [List.mem_singleton.1 hu]; exact h
theorem ldq_rep (n : Nat) : ∀ u ∈ List.replicate n ((0, 0) : VLoad), LdQ u := by
  intro u hu; rw [(List.mem_replicate.1 hu).2]; unfold LdQ; decide
def LoadsQ (B : Nat) (u : Int) (w : World) (e : Ending) (w' : World) : Prop :=
  ∃ (xs : List VLoad) (A : Option Addr) (cap : Nat), e = .returned (.slice A xs.length cap) ∧ xs.length ≤ 8 ∧ (∀ v ∈ xs, LdQ v) ∧ SOwn encLoad w' w.heap.size 72 A cap xs ∧ RdU B u w' ∧ Ext B w w'
set_option maxRecDepth 100000 in
set_option maxHeartbeats 8000000 in
theorem loadsQ_any (B : Nat) (u n : Int) (w : World) (h : RdU B u w) (hu : u ≤ 600000) (hn : 0 ≤ n) (hn1 : n ≤ 1000000) : Calls Try.prog 65 #[.pointer (some ⟨B, 0, none⟩), .int .i64 n] w (LoadsQ B (u + 20) w) := by
  have hBw := h.lt
  obtain ⟨i0, hi0, hz0, hz1, hz2⟩ := info_parts infoLoad
  have HI := Lib.hid (And.intro hi0 (And.intro hz0 (And.intro hz1 hz2)))
  clear hi0 hz0 hz1 hz2
  go_enter Try.func65, Try.ntmps65
  go_wp2_with fail
  refine (pick_any B u 8 _ (h.alloc _) (by omega) (by omega) (by omega)).mono ?_; rintro e w1 ⟨k0, rfl, k00, k01, h1, hx1⟩
  have hO1 := (SOwn.empty (E := encLoad) (blk_new w (.cells #[] 72)) (Nat.le_refl _)).extK hx1 hBw
  have hE1 := ((Ext.refl B w).alloc (.cells #[] 72)).trans hx1
  go_wp2_with fail
  go_loopw [5, 6] (fun vo vk wr => ∃ (k : Int) (xs : List VLoad) (g cp m : Nat), vk = .int .i64 k ∧ vo = .slice (some ⟨g, 0, none⟩) m cp ∧ 0 ≤ k ∧ (m : Int) + k ≤ 7 ∧ Hid (xs.length = m) ∧ Hid (∀ v ∈ xs, LdQ v) ∧ SOwn encLoad wr w.heap.size 72 (some ⟨g, 0, none⟩) cp xs ∧ RdU B (u + 1 + 2 * (7 - k)) wr ∧ Ext B w wr) (fun _ vk _ => (intOf vk).toNat)
  case atStart => exact ⟨k0, [], _, 0, 0, rfl, rfl, k00, by omega, (by show _ = _; rfl), Lib.hid (by simp), hO1, h1.mono (by omega), hE1⟩
  case round =>
    obtain ⟨k, xs, g, cp, m, rfl, rfl, k0', mk, HM, HQ, hO, hR, hX⟩ := hrel
    by_cases hk : 0 < k
    · go_wp2_with fail
      refine (pick_any B _ 10 _ hR (by omega) (by omega) (by omega)).mono ?_; rintro e w2 ⟨a, rfl, a0, a1, h2, hx2⟩
      have hO2 := hO.extK hx2 hBw
      have hX2 := hX.trans hx2
      go_wp2_with fail
      refine (pick_any B _ 4 _ h2 (by omega) (by omega) (by omega)).mono ?_; rintro e w3 ⟨c, rfl, c0, c1, h3, hx3⟩
      have hO3 := hO2.extK hx3 hBw
      have hX3 := hX2.trans hx3
      by_cases hac : 9 < a + c
      · have hw9 : IntKind.i64.wrap (a + c) = a + c := IntWalk.i64_in _ (by omega)
        have hif9 : (if (9 : Int) < a + c then (9 : Int) else a + c) = 9 := if_pos hac
        have hz3 := hX3.size
        go_wp2_with (at_builtin; refine wpList_append_lies _ rfl (.tmp 17) (.tmp 25) _ rfl w.heap.size 72 i0 _ 2 16 Try.underlying46 HI.out.1 HI.out.2.1 HI.out.2.2.1 HI.out.2.2.2 rfl (by omega) (.slice (some ⟨g, 0, none⟩) m cp) m (encLoad.flat xs) rfl (by have q := hO3.alloc (.cells (encLoad.enc (a, 9)).toArray 72); unfold SOwn at q; rw [HM.out] at q; exact q) ⟨w3.heap.size, 0, none⟩ 1 1 (encLoad.enc (a, 9)) rfl rfl (new_enc (E := encLoad) w3 (a, 9) _) (encLoad.one _) (by omega) (by simp only [maxLen]; omega) (by omega) (by simp; omega) _ rfl ?_; intro g5 cap5 w7 hown5 hgr5 hat5 hlt5)
        have hne : ∀ k, Value.ownBlock (.slice (some ⟨g, 0, none⟩) m cp) = some k → B < k := fun k hk => by have := SOwn.ge_baseK (hO3.alloc (.cells (encLoad.enc (a, 9)).toArray 72)) k hk; omega
        have hB5 := (h3.alloc (.cells (encLoad.enc (a, 9)).toArray 72)).farK hgr5 hne
        have hE5 := (hX3.alloc (.cells (encLoad.enc (a, 9)).toArray 72)).far_grownK hgr5 (SOwn.ge_baseK (hO3.alloc (.cells (encLoad.enc (a, 9)).toArray 72)))
        go_wp2_with fail
        go_roundw
        case rel => exact ⟨k - 1, xs ++ [(a, 9)], g5, cap5, m + 1, by go_num, rfl, by omega, by push_cast; omega, (by show _ = _; rw [List.length_append, HM.out]; rfl), Lib.hid (ldq_snoc HQ.out (by unfold LdQ; dsimp only; omega)), SOwn.snoc (E := encLoad) (by rw [HM.out]; exact hown5), hB5.mono (by omega), hE5⟩
        case measure => simp [intOf]; omega
      · have hw9 : IntKind.i64.wrap (a + c) = a + c := IntWalk.i64_in _ (by omega)
        have hif9 : (if (9 : Int) < a + c then (9 : Int) else a + c) = a + c := if_neg hac
        have hz3 := hX3.size
        go_wp2_with (at_builtin; refine wpList_append_lies _ rfl (.tmp 17) (.tmp 25) _ rfl w.heap.size 72 i0 _ 2 16 Try.underlying46 HI.out.1 HI.out.2.1 HI.out.2.2.1 HI.out.2.2.2 rfl (by omega) (.slice (some ⟨g, 0, none⟩) m cp) m (encLoad.flat xs) rfl (by have q := hO3.alloc (.cells (encLoad.enc (a, a + c)).toArray 72); unfold SOwn at q; rw [HM.out] at q; exact q) ⟨w3.heap.size, 0, none⟩ 1 1 (encLoad.enc (a, a + c)) rfl rfl (new_enc (E := encLoad) w3 (a, a + c) _) (encLoad.one _) (by omega) (by simp only [maxLen]; omega) (by omega) (by simp; omega) _ rfl ?_; intro g5 cap5 w7 hown5 hgr5 hat5 hlt5)
        have hne : ∀ k, Value.ownBlock (.slice (some ⟨g, 0, none⟩) m cp) = some k → B < k := fun k hk => by have := SOwn.ge_baseK (hO3.alloc (.cells (encLoad.enc (a, a + c)).toArray 72)) k hk; omega
        have hB5 := (h3.alloc (.cells (encLoad.enc (a, a + c)).toArray 72)).farK hgr5 hne
        have hE5 := (hX3.alloc (.cells (encLoad.enc (a, a + c)).toArray 72)).far_grownK hgr5 (SOwn.ge_baseK (hO3.alloc (.cells (encLoad.enc (a, a + c)).toArray 72)))
        go_wp2_with fail
        go_roundw
        case rel => exact ⟨k - 1, xs ++ [(a, a + c)], g5, cap5, m + 1, by go_num, rfl, by omega, by push_cast; omega, (by show _ = _; rw [List.length_append, HM.out]; rfl), Lib.hid (ldq_snoc HQ.out (by unfold LdQ; dsimp only; omega)), SOwn.snoc (E := encLoad) (by rw [HM.out]; exact hown5), hB5.mono (by omega), hE5⟩
        case measure => simp [intOf]; omega
    · obtain rfl : k = 0 := by omega
      have hm5 : m ≤ 7 := by omega
      go_wp2_with fail
      refine (odd0_any B _ n _ hR (by omega) hn hn1).mono ?_; rintro e w3 ⟨b, rfl, h3, hx3⟩
      have hO3 := hO.extK hx3 hBw
      have hX3 := hX.trans hx3
      cases b
      · go_wp2_with fail
        go_ret
        exact ⟨xs, _, cp, (by rw [HM.out]; rfl), (by rw [HM.out]; omega), HQ.out, hO3, h3.mono (by omega), hX3⟩
      · go_wp2_with fail
        refine (pick_any B _ 3 _ h3 (by omega) (by omega) (by omega)).mono ?_; rintro e w4 ⟨j, rfl, j0, j1, h4, hx4⟩
        have hO4 := hO3.extK hx4 hBw
        have hX4 := hX3.trans hx4
        have hz4 := hX4.size
        by_cases c : j = 0
        · subst c
          go_wp2_with (at_make; refine wpList_make_structs _ encLoad (0, 0) rfl _ _ 46 rfl 72 i0 _ Try.underlying46 HI.out.1 HI.out.2.1 HI.out.2.2.1 rfl .i64 .i64 8 rfl rfl (by rw [HI.out.2.2.2]; omega) (by omega) ?_)
          go_ret
          exact ⟨List.replicate 8 (0, 0), _, 8, by simp, by simp, ldq_rep 8, SOwn.of_blk (E := encLoad) (blk_new w4 _) hz4 (by simp) (by unfold maxLen; omega), (h4.alloc _).mono (by omega), hX4.alloc _⟩
        · have e0 : (j == 0) = false := by rw [beq_eq_false_iff_ne]; omega
          by_cases d : j = 1
          · subst d
            clear c
            obtain ⟨hcp, _⟩ := hO4.cap
            rw [HM.out] at hcp
            by_cases hm0 : m = 0
            · subst hm0
              have HYL : Hid (([] : List VLoad).length = 0) := by show _ = _; rfl
              have hL : SOwn encLoad (w4.alloc (.cells (encLoad.enc (3, 2)).toArray 72)) w.heap.size 72 (some ⟨w4.heap.size, 0, none⟩) 1 [(3, 2)] := SOwn.of_blk (E := encLoad) (xs := [(3, 2)]) (blk_new w4 (.cells (encLoad.enc (3, 2)).toArray 72)) hz4 rfl (by unfold maxLen; omega)
              have hO_d := hO4.alloc (.cells (encLoad.enc (3, 2)).toArray 72)
              have hz9 : w.heap.size ≤ (w4.alloc (.cells (encLoad.enc (3, 2)).toArray 72)).heap.size := by simp; omega
              have hB4 := h4.lt
              go_wp2_with (at_builtin; refine wpList_append_own _ rfl (.tmp 46) (.tmp 51) _ rfl w.heap.size 72 i0 _ 2 16 Try.underlying46 HI.out.1 HI.out.2.1 HI.out.2.2.1 HI.out.2.2.2 rfl (by omega) (.slice (some ⟨w4.heap.size, 0, none⟩) 1 1) 1 (encLoad.flat [(3, 2)]) rfl hL ⟨g, 0, none⟩ 0 cp (encLoad.flat ([] : List VLoad)) rfl (by rw [encLoad.flat_len, HYL.out]; rfl) (by intro j u hu; simp [Enc.flat] at hu) (encLoad.flat_one _) (by simp only [maxLen]; omega) (by omega) hz9 ?_; intro v9 w9 hown9 hgr9 hnil9)
              obtain ⟨A9, cap9, rfl⟩ := own_valK hown9
              go_wp2_with fail
              go_ret
              have hne : ∀ k, Value.ownBlock (.slice (some ⟨w4.heap.size, 0, none⟩) 1 1) = some k → B < k := fun k hk => by simp [Value.ownBlock] at hk; omega
              exact ⟨(3, 2) :: ([] : List VLoad), A9, cap9, (by simp [HM.out]; try omega), (by simp [HM.out]; try omega), ldq_cons (by unfold LdQ; decide) (by first | exact ldq_nil | exact fun v hv => HQ.out v (List.mem_of_mem_drop hv)), SOwn.of_raw (E := encLoad) hown9 (by rw [encLoad.flat_cons]; simp [Enc.flat]) (by simp [HM.out]; try omega), ((h4.alloc (.cells (encLoad.enc (3, 2)).toArray 72)).farK hgr9 hne).mono (by omega), (hX4.alloc (.cells (encLoad.enc (3, 2)).toArray 72)).far_grownK hgr9 (fun k hk => by simp [Value.ownBlock] at hk; omega)⟩
            · have hm1 : 1 ≤ m := by omega
              have hmi : (1 : Int) ≤ (m : Int) := by omega
              have hml : ¬ (m : Int) < 1 := by omega
              by_cases hc : cp = 1
              · obtain rfl : m = 1 := by omega
                have HYL : Hid (([] : List VLoad).length = 0) := by show _ = _; rfl
                have hL : SOwn encLoad (w4.alloc (.cells (encLoad.enc (3, 2)).toArray 72)) w.heap.size 72 (some ⟨w4.heap.size, 0, none⟩) 1 [(3, 2)] := SOwn.of_blk (E := encLoad) (xs := [(3, 2)]) (blk_new w4 (.cells (encLoad.enc (3, 2)).toArray 72)) hz4 rfl (by unfold maxLen; omega)
                have hO_d := hO4.alloc (.cells (encLoad.enc (3, 2)).toArray 72)
                have hz9 : w.heap.size ≤ (w4.alloc (.cells (encLoad.enc (3, 2)).toArray 72)).heap.size := by simp; omega
                have hB4 := h4.lt
                go_wp2_with (at_builtin; refine wpList_append_own _ rfl (.tmp 46) (.tmp 51) _ rfl w.heap.size 72 i0 _ 2 16 Try.underlying46 HI.out.1 HI.out.2.1 HI.out.2.2.1 HI.out.2.2.2 rfl (by omega) (.slice (some ⟨w4.heap.size, 0, none⟩) 1 1) 1 (encLoad.flat [(3, 2)]) rfl hL ⟨g, 0, none⟩ 0 0 (encLoad.flat ([] : List VLoad)) rfl (by rw [encLoad.flat_len, HYL.out]; rfl) (by intro j u hu; simp [Enc.flat] at hu) (encLoad.flat_one _) (by simp only [maxLen]; omega) (by omega) hz9 ?_; intro v9 w9 hown9 hgr9 hnil9)
                obtain ⟨A9, cap9, rfl⟩ := own_valK hown9
                go_wp2_with fail
                go_ret
                have hne : ∀ k, Value.ownBlock (.slice (some ⟨w4.heap.size, 0, none⟩) 1 1) = some k → B < k := fun k hk => by simp [Value.ownBlock] at hk; omega
                exact ⟨(3, 2) :: ([] : List VLoad), A9, cap9, (by simp [HM.out]; try omega), (by simp [HM.out]; try omega), ldq_cons (by unfold LdQ; decide) (by first | exact ldq_nil | exact fun v hv => HQ.out v (List.mem_of_mem_drop hv)), SOwn.of_raw (E := encLoad) hown9 (by rw [encLoad.flat_cons]; simp [Enc.flat]) (by simp [HM.out]; try omega), ((h4.alloc (.cells (encLoad.enc (3, 2)).toArray 72)).farK hgr9 hne).mono (by omega), (hX4.alloc (.cells (encLoad.enc (3, 2)).toArray 72)).far_grownK hgr9 (fun k hk => by simp [Value.ownBlock] at hk; omega)⟩
              · have HYL : Hid ((xs.drop 1).length = m - 1) := by show _ = _; rw [List.length_drop, HM.out]
                have hL : SOwn encLoad (w4.alloc (.cells (encLoad.enc (3, 2)).toArray 72)) w.heap.size 72 (some ⟨w4.heap.size, 0, none⟩) 1 [(3, 2)] := SOwn.of_blk (E := encLoad) (xs := [(3, 2)]) (blk_new w4 (.cells (encLoad.enc (3, 2)).toArray 72)) hz4 rfl (by unfold maxLen; omega)
                have hO_d := hO4.alloc (.cells (encLoad.enc (3, 2)).toArray 72)
                have hz9 : w.heap.size ≤ (w4.alloc (.cells (encLoad.enc (3, 2)).toArray 72)).heap.size := by simp; omega
                have hB4 := h4.lt
                go_wp2_with (at_builtin; refine wpList_append_own _ rfl (.tmp 46) (.tmp 51) _ rfl w.heap.size 72 i0 _ 2 16 Try.underlying46 HI.out.1 HI.out.2.1 HI.out.2.2.1 HI.out.2.2.2 rfl (by omega) (.slice (some ⟨w4.heap.size, 0, none⟩) 1 1) 1 (encLoad.flat [(3, 2)]) rfl hL ⟨g, 2, none⟩ (m - 1) (cp - 1) (encLoad.flat (xs.drop 1)) rfl (by rw [encLoad.flat_len, HYL.out]; rfl) (SRow.newsK (SOwn.tailK hO_d)) (encLoad.flat_one _) (by simp only [maxLen]; omega) (by omega) hz9 ?_; intro v9 w9 hown9 hgr9 hnil9)
                obtain ⟨A9, cap9, rfl⟩ := own_valK hown9
                go_wp2_with fail
                go_ret
                have hne : ∀ k, Value.ownBlock (.slice (some ⟨w4.heap.size, 0, none⟩) 1 1) = some k → B < k := fun k hk => by simp [Value.ownBlock] at hk; omega
                exact ⟨(3, 2) :: (xs.drop 1), A9, cap9, (by simp [HM.out]; try omega), (by simp [HM.out]; try omega), ldq_cons (by unfold LdQ; decide) (by first | exact ldq_nil | exact fun v hv => HQ.out v (List.mem_of_mem_drop hv)), SOwn.of_raw (E := encLoad) hown9 (by rw [encLoad.flat_cons]; simp [Enc.flat]) (by simp [HM.out]; try omega), ((h4.alloc (.cells (encLoad.enc (3, 2)).toArray 72)).farK hgr9 hne).mono (by omega), (hX4.alloc (.cells (encLoad.enc (3, 2)).toArray 72)).far_grownK hgr9 (fun k hk => by simp [Value.ownBlock] at hk; omega)⟩
          · have e1 : (j == 1) = false := by rw [beq_eq_false_iff_ne]; omega
            clear c d
            obtain ⟨hcp, _⟩ := hO4.cap
            rw [HM.out] at hcp
            by_cases hm0 : m = 0
            · subst hm0
              have HYL : Hid (([] : List VLoad).length = 0) := by show _ = _; rfl
              have hL : SOwn encLoad (w4.alloc (.cells (encLoad.enc (3, 10)).toArray 72)) w.heap.size 72 (some ⟨w4.heap.size, 0, none⟩) 1 [(3, 10)] := SOwn.of_blk (E := encLoad) (xs := [(3, 10)]) (blk_new w4 (.cells (encLoad.enc (3, 10)).toArray 72)) hz4 rfl (by unfold maxLen; omega)
              have hO_d := hO4.alloc (.cells (encLoad.enc (3, 10)).toArray 72)
              have hz9 : w.heap.size ≤ (w4.alloc (.cells (encLoad.enc (3, 10)).toArray 72)).heap.size := by simp; omega
              have hB4 := h4.lt
              go_wp2_with (at_builtin; refine wpList_append_own _ rfl (.tmp 33) (.tmp 38) _ rfl w.heap.size 72 i0 _ 2 16 Try.underlying46 HI.out.1 HI.out.2.1 HI.out.2.2.1 HI.out.2.2.2 rfl (by omega) (.slice (some ⟨w4.heap.size, 0, none⟩) 1 1) 1 (encLoad.flat [(3, 10)]) rfl hL ⟨g, 0, none⟩ 0 cp (encLoad.flat ([] : List VLoad)) rfl (by rw [encLoad.flat_len, HYL.out]; rfl) (by intro j u hu; simp [Enc.flat] at hu) (encLoad.flat_one _) (by simp only [maxLen]; omega) (by omega) hz9 ?_; intro v9 w9 hown9 hgr9 hnil9)
              obtain ⟨A9, cap9, rfl⟩ := own_valK hown9
              go_wp2_with fail
              go_ret
              have hne : ∀ k, Value.ownBlock (.slice (some ⟨w4.heap.size, 0, none⟩) 1 1) = some k → B < k := fun k hk => by simp [Value.ownBlock] at hk; omega
              exact ⟨(3, 10) :: ([] : List VLoad), A9, cap9, (by simp [HM.out]; try omega), (by simp [HM.out]; try omega), ldq_cons (by unfold LdQ; decide) (by first | exact ldq_nil | exact fun v hv => HQ.out v (List.mem_of_mem_drop hv)), SOwn.of_raw (E := encLoad) hown9 (by rw [encLoad.flat_cons]; simp [Enc.flat]) (by simp [HM.out]; try omega), ((h4.alloc (.cells (encLoad.enc (3, 10)).toArray 72)).farK hgr9 hne).mono (by omega), (hX4.alloc (.cells (encLoad.enc (3, 10)).toArray 72)).far_grownK hgr9 (fun k hk => by simp [Value.ownBlock] at hk; omega)⟩
            · have hm1 : 1 ≤ m := by omega
              have hmi : (1 : Int) ≤ (m : Int) := by omega
              have hml : ¬ (m : Int) < 1 := by omega
              by_cases hc : cp = 1
              · obtain rfl : m = 1 := by omega
                have HYL : Hid (([] : List VLoad).length = 0) := by show _ = _; rfl
                have hL : SOwn encLoad (w4.alloc (.cells (encLoad.enc (3, 10)).toArray 72)) w.heap.size 72 (some ⟨w4.heap.size, 0, none⟩) 1 [(3, 10)] := SOwn.of_blk (E := encLoad) (xs := [(3, 10)]) (blk_new w4 (.cells (encLoad.enc (3, 10)).toArray 72)) hz4 rfl (by unfold maxLen; omega)
                have hO_d := hO4.alloc (.cells (encLoad.enc (3, 10)).toArray 72)
                have hz9 : w.heap.size ≤ (w4.alloc (.cells (encLoad.enc (3, 10)).toArray 72)).heap.size := by simp; omega
                have hB4 := h4.lt
                go_wp2_with (at_builtin; refine wpList_append_own _ rfl (.tmp 33) (.tmp 38) _ rfl w.heap.size 72 i0 _ 2 16 Try.underlying46 HI.out.1 HI.out.2.1 HI.out.2.2.1 HI.out.2.2.2 rfl (by omega) (.slice (some ⟨w4.heap.size, 0, none⟩) 1 1) 1 (encLoad.flat [(3, 10)]) rfl hL ⟨g, 0, none⟩ 0 0 (encLoad.flat ([] : List VLoad)) rfl (by rw [encLoad.flat_len, HYL.out]; rfl) (by intro j u hu; simp [Enc.flat] at hu) (encLoad.flat_one _) (by simp only [maxLen]; omega) (by omega) hz9 ?_; intro v9 w9 hown9 hgr9 hnil9)
                obtain ⟨A9, cap9, rfl⟩ := own_valK hown9
                go_wp2_with fail
                go_ret
                have hne : ∀ k, Value.ownBlock (.slice (some ⟨w4.heap.size, 0, none⟩) 1 1) = some k → B < k := fun k hk => by simp [Value.ownBlock] at hk; omega
                exact ⟨(3, 10) :: ([] : List VLoad), A9, cap9, (by simp [HM.out]; try omega), (by simp [HM.out]; try omega), ldq_cons (by unfold LdQ; decide) (by first | exact ldq_nil | exact fun v hv => HQ.out v (List.mem_of_mem_drop hv)), SOwn.of_raw (E := encLoad) hown9 (by rw [encLoad.flat_cons]; simp [Enc.flat]) (by simp [HM.out]; try omega), ((h4.alloc (.cells (encLoad.enc (3, 10)).toArray 72)).farK hgr9 hne).mono (by omega), (hX4.alloc (.cells (encLoad.enc (3, 10)).toArray 72)).far_grownK hgr9 (fun k hk => by simp [Value.ownBlock] at hk; omega)⟩
              · have HYL : Hid ((xs.drop 1).length = m - 1) := by show _ = _; rw [List.length_drop, HM.out]
                have hL : SOwn encLoad (w4.alloc (.cells (encLoad.enc (3, 10)).toArray 72)) w.heap.size 72 (some ⟨w4.heap.size, 0, none⟩) 1 [(3, 10)] := SOwn.of_blk (E := encLoad) (xs := [(3, 10)]) (blk_new w4 (.cells (encLoad.enc (3, 10)).toArray 72)) hz4 rfl (by unfold maxLen; omega)
                have hO_d := hO4.alloc (.cells (encLoad.enc (3, 10)).toArray 72)
                have hz9 : w.heap.size ≤ (w4.alloc (.cells (encLoad.enc (3, 10)).toArray 72)).heap.size := by simp; omega
                have hB4 := h4.lt
                go_wp2_with (at_builtin; refine wpList_append_own _ rfl (.tmp 33) (.tmp 38) _ rfl w.heap.size 72 i0 _ 2 16 Try.underlying46 HI.out.1 HI.out.2.1 HI.out.2.2.1 HI.out.2.2.2 rfl (by omega) (.slice (some ⟨w4.heap.size, 0, none⟩) 1 1) 1 (encLoad.flat [(3, 10)]) rfl hL ⟨g, 2, none⟩ (m - 1) (cp - 1) (encLoad.flat (xs.drop 1)) rfl (by rw [encLoad.flat_len, HYL.out]; rfl) (SRow.newsK (SOwn.tailK hO_d)) (encLoad.flat_one _) (by simp only [maxLen]; omega) (by omega) hz9 ?_; intro v9 w9 hown9 hgr9 hnil9)
                obtain ⟨A9, cap9, rfl⟩ := own_valK hown9
                go_wp2_with fail
                go_ret
                have hne : ∀ k, Value.ownBlock (.slice (some ⟨w4.heap.size, 0, none⟩) 1 1) = some k → B < k := fun k hk => by simp [Value.ownBlock] at hk; omega
                exact ⟨(3, 10) :: (xs.drop 1), A9, cap9, (by simp [HM.out]; try omega), (by simp [HM.out]; try omega), ldq_cons (by unfold LdQ; decide) (by first | exact ldq_nil | exact fun v hv => HQ.out v (List.mem_of_mem_drop hv)), SOwn.of_raw (E := encLoad) hown9 (by rw [encLoad.flat_cons]; simp [Enc.flat]) (by simp [HM.out]; try omega), ((h4.alloc (.cells (encLoad.enc (3, 10)).toArray 72)).farK hgr9 hne).mono (by omega), (hX4.alloc (.cells (encLoad.enc (3, 10)).toArray 72)).far_grownK hgr9 (fun k hk => by simp [Value.ownBlock] at hk; omega)⟩
theorem SOwn.set_farB {α : Type} {E : Enc α} {w : World} {base : Nat} {T : TypeId} {A : Option Addr} {cap : Nat} {xs : List α} (h : SOwn E w base T A cap xs) {C : Nat} (hne : ∀ g, A = some ⟨g, 0, none⟩ → g ≠ C) (i : Nat) (v : Value) : SOwn E (w.setCell ⟨C, i, none⟩ v) base T A cap xs := by
  refine World.ownsRow.kept (row := some C) h ⟨rfl, rfl, rfl, by simp [World.setCell], fun k hk hk2 => by
    rw [Below.heap_setCell _ _ _ _ (fun e => hk2 (by rw [e]))]⟩ ?_
  rcases h.form with ⟨rfl, _⟩ | ⟨g, rfl, _⟩
  · exact .inl rfl
  · exact .inr (by simp [Value.ownBlock]; exact hne g rfl)
def DrewLP (w : World) (e : Ending) (w' : World) : Prop := ∃ (xs : List VLoad) (A : Option Addr) (cap : Nat) (hs : List Int) (A2 : Option Addr) (cap2 : Nat), e = .returned (.tuple #[.slice A xs.length cap, .slice A2 hs.length cap2]) ∧ xs.length ≤ 8 ∧ hs.length ≤ 8 ∧ SOwn encLoad w' w.heap.size 72 A cap xs ∧ SOwn encNum w' w.heap.size 3 A2 cap2 hs ∧ Below w.heap.size w w'
set_option maxRecDepth 100000 in
set_option maxHeartbeats 8000000 in
theorem drLoadsPeak_any (a : Option Addr) (len cap : Nat) (w : World) (h : CodeOk w a len cap) : Calls Try.prog 34 #[.slice a len cap] w (DrewLP w) := by
  obtain ⟨i0, hi0, hz0, hz1, hz2⟩ := info_parts infoNum
  have HI := Lib.hid (And.intro hi0 (And.intro hz0 (And.intro hz1 hz2)))
  clear hi0 hz0 hz1 hz2
  go_enter Try.func34, Try.ntmps34
  go_wp2_with fail
  refine (open_any _ _ _ _ h).mono ?_; rintro e w1 ⟨B, rfl, hB, h1, hb1⟩
  go_wp2_with fail
  refine (loadsQ_any B 0 12 _ h1 (by omega) (by omega) (by omega)).mono ?_; rintro e w2 ⟨xs, A, cp, rfl, hx8, hq8, hL2, h2, hx2⟩
  obtain ⟨m, hm⟩ : ∃ m, xs.length = m := ⟨_, rfl⟩
  rw [hm] at hx8 ⊢
  have HM := Lib.hid hm
  have HQ8 := Lib.hid hq8
  clear hm hq8
  have hA2 : ∀ g, A = some ⟨g, 0, none⟩ → g < w2.heap.size := fun g hg => by
    rcases hL2.form with ⟨e, _⟩ | ⟨g1, e, _, h⟩
    · rw [e] at hg; cases hg
    · rw [e] at hg; cases hg; exact h
  have HA2 := Lib.hid hA2
  clear hA2
  have hBw := h1.lt
  have hB2 := h2.lt
  have hz2_ := hx2.size
  go_wp2_with fail
  go_loopw [6, 7] (fun v6 v7 wr => ∃ (k g cq : Nat) (hs : List Int), v7 = .int .i64 k ∧ v6 = .slice (some ⟨g, 0, none⟩) k cq ∧ k ≤ m ∧ Hid (hs.length = k) ∧ SOwn encNum wr w2.heap.size 3 (some ⟨g, 0, none⟩) cq hs ∧ SOwn encLoad wr w1.heap.size 72 A cp xs ∧ RdU B (20 + k) wr ∧ Ext B w1 wr) (fun _ v7 _ => (m - intOf v7).toNat)
  case atStart => exact ⟨0, _, 0, [], rfl, rfl, by omega, Lib.hid rfl, SOwn.empty (blk_new w2 _) (Nat.le_refl _), hL2.alloc _, (h2.alloc _).mono (by omega), hx2.alloc _⟩
  case round =>
    clear hL2 h2 hx2
    obtain ⟨k, g, cq, hs, rfl, rfl, k1, HS, hO, hL, hR, hX⟩ := hrel
    by_cases hlt : k < m
    · have hk : k < xs.length := by rw [HM.out]; exact hlt
      have hki : (k : Int) < (m : Int) := by omega
      obtain ⟨ga, rfl, hga, hgl⟩ := hL.at_ hk
      have hgw := HA2.out ga rfl
      have HC : Hid (∀ wv, SOwn encLoad wv w1.heap.size 72 (some ⟨ga, 0, none⟩) cp xs → wv.cell? ⟨ga, k * 2, none⟩ = some (.int .i64 xs[k].1) ∧ wv.cell? ⟨ga, k * 2 + 1, none⟩ = some (.int .i64 xs[k].2)) := Lib.hid (fun wv h9 => ownLoad h9 hk)
      obtain ⟨⟨f0, f1⟩, ⟨d0, d1⟩⟩ := HQ8.out xs[k] (List.getElem_mem hk)
      generalize xs[k].1 = f at HC f0 f1
      generalize xs[k].2 = d at HC d0 d1
      have hw1 : IntKind.i64.wrap (d - f) = d - f := IntWalk.i64_in _ (by omega)
      obtain ⟨q, hq⟩ : ∃ q, (if d - f < 0 then (0 : Int) else d - f) = q := ⟨_, rfl⟩
      have hq0 : 0 ≤ q ∧ q ≤ 10 := by rw [← hq]; split <;> omega
      obtain ⟨q0, q1⟩ := hq0
      have hw2 : IntKind.i64.wrap (q + 1) = q + 1 := IntWalk.i64_in _ (by omega)
      obtain ⟨c0, c1⟩ := HC.out wr hL
      go_wp2_with fail
      have hO_0 := hO.drew
      have hL_0 := hL.drew
      have hR_0 := hR.drw
      have hX_0 := hX.drw
      refine wp_region_held_drew (S := (fun w' => w'.cell? ⟨ga, k * 2, none⟩ = some (.int .i64 f) ∧ w'.cell? ⟨ga, k * 2 + 1, none⟩ = some (.int .i64 d))) (by kernel_rfl) ⟨c0, c1⟩ (fun hHeld => ?_)
      clear hHeld
      have hSS : (fun w' => w'.cell? ⟨ga, k * 2, none⟩ = some (.int .i64 f) ∧ w'.cell? ⟨ga, k * 2 + 1, none⟩ = some (.int .i64 d)) wr.drew := ⟨c0, c1⟩
      refine wpAnyH_take (i := 0) (oi := _) (v := ?_) rfl (by kernel_rfl) (by kernel_rfl) (by kernel_rfl) (fun _ _ _ h => h) (Or.inl ⟨by rfl, ?_⟩) (by assumption) ?_
      (rotate_left); (focus (intro wv hSw; (obtain ⟨qC, qD⟩ := hSw); go_simp; (try with_reducible rfl)))
      try simp only [Act.put, List.getElem_toArray, List.getElem_cons_succ, List.getElem_cons_zero, List.setIfInBounds_toArray, List.set_cons_zero, List.set_cons_succ]
      refine wpAnyH_take (i := 1) (oi := _) (v := ?_) rfl (by kernel_rfl) (by kernel_rfl) (by kernel_rfl) (fun _ _ _ h => h) (Or.inl ⟨by rfl, ?_⟩) (by assumption) ?_
      (rotate_left); (focus (intro wv hSw; (obtain ⟨qC, qD⟩ := hSw); go_simp; (try with_reducible rfl)))
      try simp only [Act.put, List.getElem_toArray, List.getElem_cons_succ, List.getElem_cons_zero, List.setIfInBounds_toArray, List.set_cons_zero, List.set_cons_succ]
      refine wpAnyH_take (i := 2) (oi := _) (v := ?_) rfl (by kernel_rfl) (by kernel_rfl) (by kernel_rfl) (fun _ _ _ h => h) (Or.inl ⟨by rfl, ?_⟩) (by assumption) ?_
      (rotate_left); (focus (intro wv hSw; (obtain ⟨qC, qD⟩ := hSw); go_simp; (try with_reducible rfl)))
      try simp only [Act.put, List.getElem_toArray, List.getElem_cons_succ, List.getElem_cons_zero, List.setIfInBounds_toArray, List.set_cons_zero, List.set_cons_succ]
      refine wpAnyH_take (i := 3) (oi := _) (v := ?_) rfl (by kernel_rfl) (by kernel_rfl) (by kernel_rfl) (fun _ _ _ h => h) (Or.inl ⟨by rfl, ?_⟩) (by assumption) ?_
      (rotate_left); (focus (intro wv hSw; (obtain ⟨qC, qD⟩ := hSw); go_simp; (try with_reducible rfl)))
      try simp only [Act.put, List.getElem_toArray, List.getElem_cons_succ, List.getElem_cons_zero, List.setIfInBounds_toArray, List.set_cons_zero, List.set_cons_succ]
      refine wpAnyH_take (i := 4) (oi := _) (v := ?_) rfl (by kernel_rfl) (by kernel_rfl) (by kernel_rfl) (fun _ _ _ h => h) (Or.inl ⟨by rfl, ?_⟩) (by assumption) ?_
      (rotate_left); (focus (intro wv hSw; (obtain ⟨qC, qD⟩ := hSw); go_simp; (try with_reducible rfl)))
      try simp only [Act.put, List.getElem_toArray, List.getElem_cons_succ, List.getElem_cons_zero, List.setIfInBounds_toArray, List.set_cons_zero, List.set_cons_succ]
      refine wpAnyH_take (i := 6) (oi := _) (v := ?_) rfl (by kernel_rfl) (by kernel_rfl) (by kernel_rfl) (fun _ _ _ h => h) (Or.inl ⟨by rfl, ?_⟩) (by assumption) ?_
      (rotate_left); (focus (intro wv hSw; (obtain ⟨qC, qD⟩ := hSw); go_simp; (try with_reducible rfl)))
      try simp only [Act.put, List.getElem_toArray, List.getElem_cons_succ, List.getElem_cons_zero, List.setIfInBounds_toArray, List.set_cons_zero, List.set_cons_succ]
      refine wpAnyH_take (i := 7) (oi := _) (v := ?_) rfl (by kernel_rfl) (by kernel_rfl) (by kernel_rfl) (fun _ _ _ h => h) (Or.inl ⟨by rfl, ?_⟩) (by assumption) ?_
      (rotate_left); (focus (intro wv hSw; (obtain ⟨qC, qD⟩ := hSw); go_simp; (try with_reducible rfl)))
      try simp only [Act.put, List.getElem_toArray, List.getElem_cons_succ, List.getElem_cons_zero, List.setIfInBounds_toArray, List.set_cons_zero, List.set_cons_succ]
      refine wpAnyH_take (i := 8) (oi := _) (v := ?_) rfl (by kernel_rfl) (by kernel_rfl) (by kernel_rfl) (fun _ _ _ h => h) (Or.inl ⟨by rfl, ?_⟩) (by assumption) ?_
      (rotate_left); (focus (intro wv hSw; (obtain ⟨qC, qD⟩ := hSw); go_simp; (try with_reducible rfl)))
      try simp only [Act.put, List.getElem_toArray, List.getElem_cons_succ, List.getElem_cons_zero, List.setIfInBounds_toArray, List.set_cons_zero, List.set_cons_succ]
      refine wpAnyH_take (i := 9) (oi := _) (v := ?_) rfl (by kernel_rfl) (by kernel_rfl) (by kernel_rfl) (fun _ _ _ h => h) (Or.inl ⟨by rfl, ?_⟩) (by assumption) ?_
      (rotate_left); (focus (intro wv hSw; (obtain ⟨qC, qD⟩ := hSw); go_simp; (try with_reducible rfl)))
      try simp only [Act.put, List.getElem_toArray, List.getElem_cons_succ, List.getElem_cons_zero, List.setIfInBounds_toArray, List.set_cons_zero, List.set_cons_succ]
      refine wpAnyH_take (i := 10) (oi := _) (v := ?_) rfl (by kernel_rfl) (by kernel_rfl) (by kernel_rfl) (fun _ _ _ h => h) (Or.inl ⟨by rfl, ?_⟩) (by assumption) ?_
      (rotate_left); (focus (intro wv hSw; (obtain ⟨qC, qD⟩ := hSw); go_simp; (try with_reducible rfl)))
      try simp only [Act.put, List.getElem_toArray, List.getElem_cons_succ, List.getElem_cons_zero, List.setIfInBounds_toArray, List.set_cons_zero, List.set_cons_succ]
      refine wpAnyH_take (i := 12) (oi := _) (v := ?_) rfl (by kernel_rfl) (by kernel_rfl) (by kernel_rfl) (fun _ _ _ h => h) (Or.inl ⟨by rfl, ?_⟩) (by assumption) ?_
      (rotate_left); (focus (intro wv hSw; (obtain ⟨qC, qD⟩ := hSw); go_simp; (try with_reducible rfl)))
      try simp only [Act.put, List.getElem_toArray, List.getElem_cons_succ, List.getElem_cons_zero, List.setIfInBounds_toArray, List.set_cons_zero, List.set_cons_succ]
      refine wpAnyH_take (i := 13) (oi := _) (v := ?_) rfl (by kernel_rfl) (by kernel_rfl) (by kernel_rfl) (fun _ _ _ h => h) (Or.inl ⟨by rfl, ?_⟩) (by assumption) ?_
      (rotate_left); (focus (intro wv hSw; (obtain ⟨qC, qD⟩ := hSw); go_simp; (try with_reducible rfl)))
      try simp only [Act.put, List.getElem_toArray, List.getElem_cons_succ, List.getElem_cons_zero, List.setIfInBounds_toArray, List.set_cons_zero, List.set_cons_succ]
      refine wpAnyH_take (i := 14) (oi := _) (v := ?_) rfl (by kernel_rfl) (by kernel_rfl) (by kernel_rfl) (fun _ _ _ h => h) (Or.inl ⟨by rfl, ?_⟩) (by assumption) ?_
      (rotate_left); (focus (intro wv hSw; (obtain ⟨qC, qD⟩ := hSw); go_simp; (try with_reducible rfl)))
      try simp only [Act.put, List.getElem_toArray, List.getElem_cons_succ, List.getElem_cons_zero, List.setIfInBounds_toArray, List.set_cons_zero, List.set_cons_succ]
      refine wpAnyH_take (i := 15) (oi := _) (v := ?_) rfl (by kernel_rfl) (by kernel_rfl) (by kernel_rfl) (fun _ _ _ h => h) (Or.inl ⟨by rfl, ?_⟩) (by assumption) ?_
      (rotate_left); (focus (intro wv hSw; (obtain ⟨qC, qD⟩ := hSw); go_simp; (try with_reducible rfl)))
      try simp only [Act.put, List.getElem_toArray, List.getElem_cons_succ, List.getElem_cons_zero, List.setIfInBounds_toArray, List.set_cons_zero, List.set_cons_succ]
      refine wpAnyH_take (i := 5) (oi := _) (v := ?_) rfl (by kernel_rfl) (by kernel_rfl) (by kernel_rfl) (fun _ _ _ h => h) (Or.inl ⟨by rfl, ?_⟩) (by assumption) ?_
      (rotate_left); (focus (intro wv hSw; (obtain ⟨qC, qD⟩ := hSw); go_simp; (try with_reducible rfl)))
      try simp only [Act.put, List.getElem_toArray, List.getElem_cons_succ, List.getElem_cons_zero, List.setIfInBounds_toArray, List.set_cons_zero, List.set_cons_succ]
      refine wpAnyH_take (i := 11) (oi := _) (v := ?_) rfl (by kernel_rfl) (by kernel_rfl) (by kernel_rfl) (fun _ _ _ h => h) (Or.inl ⟨by rfl, ?_⟩) (by assumption) ?_
      (rotate_left); (focus (intro wv hSw; (obtain ⟨qC, qD⟩ := hSw); go_simp; (try with_reducible rfl)))
      try simp only [Act.put, List.getElem_toArray, List.getElem_cons_succ, List.getElem_cons_zero, List.setIfInBounds_toArray, List.set_cons_zero, List.set_cons_succ]
      refine wpAnyH_take (i := 16) (oi := _) (v := ?_) rfl (by kernel_rfl) (by kernel_rfl) (by kernel_rfl) (fun _ _ _ h => h) (Or.inl ⟨by rfl, ?_⟩) (by assumption) ?_
      (rotate_left); (focus (intro wv hSw; (obtain ⟨qC, qD⟩ := hSw); go_simp; (try with_reducible rfl)))
      try simp only [Act.put, List.getElem_toArray, List.getElem_cons_succ, List.getElem_cons_zero, List.setIfInBounds_toArray, List.set_cons_zero, List.set_cons_succ]
      refine wpAnyH_take (i := 17) (oi := _) (v := ?_) rfl (by kernel_rfl) (by kernel_rfl) (by kernel_rfl) (fun _ _ _ h => h) (Or.inl ⟨by rfl, ?_⟩) (by assumption) ?_
      (rotate_left); (focus (intro wv hSw; (obtain ⟨qC, qD⟩ := hSw); go_simp; (try with_reducible rfl)))
      try simp only [Act.put, List.getElem_toArray, List.getElem_cons_succ, List.getElem_cons_zero, List.setIfInBounds_toArray, List.set_cons_zero, List.set_cons_succ]
      refine wpAnyH_take (i := 18) (oi := _) (v := ?_) rfl (by kernel_rfl) (by kernel_rfl) (by kernel_rfl) (fun _ _ _ h => h) (Or.inl ⟨by rfl, ?_⟩) (by assumption) ?_
      (rotate_left); (focus (intro wv hSw; (obtain ⟨qC, qD⟩ := hSw); go_simp; (try with_reducible rfl)))
      try simp only [Act.put, List.getElem_toArray, List.getElem_cons_succ, List.getElem_cons_zero, List.setIfInBounds_toArray, List.set_cons_zero, List.set_cons_succ]
      refine wpAnyH_take (i := 19) (oi := _) (v := ?_) rfl (by kernel_rfl) (by kernel_rfl) (by kernel_rfl) (fun _ _ _ h => h) (Or.inl ⟨by rfl, ?_⟩) (by assumption) ?_
      (rotate_left); (focus (intro wv hSw; (obtain ⟨qC, qD⟩ := hSw); go_simp; (try with_reducible rfl)))
      try simp only [Act.put, List.getElem_toArray, List.getElem_cons_succ, List.getElem_cons_zero, List.setIfInBounds_toArray, List.set_cons_zero, List.set_cons_succ]
      refine wpAnyH_ready (rs := [20]) (by kernel_rfl) (by simp) ?_
      refine AllReadyH.cons (o := _) rfl (fun K hK => ?_) AllReadyH.nil
      go_simp
      (go_at_call 66; refine (pick_any B _ (q + 1) _ hR_0 (by omega) (by omega) (by omega)).mono ?_; rintro e x0 ⟨p, rfl, p0, p1, hR_c, hx_c⟩)
      have hO_c := hO_0.extK hx_c (by omega)
      have hL_c := hL_0.extK hx_c (by omega)
      have hX_c := hX_0.trans hx_c
      obtain ⟨e0, e1⟩ := HC.out x0 hL_c
      have hw3 : IntKind.i64.wrap (f + p) = f + p := IntWalk.i64_in _ (by omega)
      clear hSS
      refine hK.out _ _ ⟨e0, e1⟩ (fun hHeld => ?_)
      clear hHeld hK K
      try simp only [Act.put, List.getElem_toArray, List.getElem_cons_succ, List.getElem_cons_zero, List.setIfInBounds_toArray, List.set_cons_zero, List.set_cons_succ]
      have hSS : (fun w' => w'.cell? ⟨ga, k * 2, none⟩ = some (.int .i64 f) ∧ w'.cell? ⟨ga, k * 2 + 1, none⟩ = some (.int .i64 d)) x0 := ⟨e0, e1⟩
      refine wpAnyH_take (i := 21) (oi := _) (v := ?_) rfl (by kernel_rfl) (by kernel_rfl) (by kernel_rfl) (fun _ _ _ h => h) (Or.inl ⟨by rfl, ?_⟩) (by assumption) ?_
      (rotate_left); (focus (intro wv hSw; (obtain ⟨qC, qD⟩ := hSw); go_simp; (try with_reducible rfl)))
      try simp only [Act.put, List.getElem_toArray, List.getElem_cons_succ, List.getElem_cons_zero, List.setIfInBounds_toArray, List.set_cons_zero, List.set_cons_succ]
      refine wpAnyH_ready (rs := [22]) (by kernel_rfl) (by simp) ?_
      refine AllReadyH.cons (o := _) rfl (fun K hK => ?_) AllReadyH.nil
      go_simp
      have hO_d := hO_c.alloc (.cells (encNum.enc (f + p)).toArray 3)
      have hL_d := hL_c.alloc (.cells (encNum.enc (f + p)).toArray 3)
      have hR_d := hR_c.alloc (.cells (encNum.enc (f + p)).toArray 3)
      have hX_d := hX_c.alloc (.cells (encNum.enc (f + p)).toArray 3)
      obtain ⟨e2, e3⟩ := HC.out _ hL_d
      refine hK.out _ _ ⟨e2, e3⟩ (fun hHeld => ?_)
      clear hHeld hK K
      try simp only [Act.put, List.getElem_toArray, List.getElem_cons_succ, List.getElem_cons_zero, List.setIfInBounds_toArray, List.set_cons_zero, List.set_cons_succ]
      have hz9 := hX_c.size
      have hB9 := hR_c.lt
      have hzz := hO_c.form
      refine wpAnyH_ready (rs := [23]) (by kernel_rfl) (by simp) ?_
      refine AllReadyH.cons (o := _) rfl (fun K hK => ?_) AllReadyH.nil
      rw [if_pos (by kernel_rfl)]
      have hz5 : w2.heap.size ≤ x0.heap.size := by rcases hzz with ⟨e9, _⟩ | ⟨g9, e9, h8, h9⟩; cases e9; omega
      refine wp_append_lies _ (.tmp 19) (.tmp 41) _ rfl w2.heap.size 3 i0 _ 1 8 Try.underlying25 HI.out.1 HI.out.2.1 HI.out.2.2.1 HI.out.2.2.2 rfl (by omega) (.slice (some ⟨g, 0, none⟩) k cq) k (encNum.flat hs) rfl (by unfold SOwn at hO_d; rw [HS.out] at hO_d; exact hO_d) ⟨x0.heap.size, 0, none⟩ 1 1 (encNum.enc (f + p)) rfl rfl (new_enc (E := encNum) x0 (f + p) _) (encNum.one _) (by omega) (by simp only [maxLen]; omega) (by omega) (by simp; omega) _ rfl ?_; intro g5 cap5 w5 hown5 hgr5 hat5 hlt5
      have hne : ∀ j, Value.ownBlock (.slice (some ⟨g, 0, none⟩) k cq) = some j → w2.heap.size ≤ j := fun j hj => SOwn.ge_baseK (hO_d) j hj
      have hL5 := SOwn.grown_far hL_d hgr5 (fun g9 hg9 e9 => by have := hne _ e9; have := HA2.out g9 hg9; omega)
      have hR5 := hR_d.farK hgr5 (fun j hj => by have := hne j hj; omega)
      have hX5 := hX_d.far_grownK hgr5 (fun j hj => by have := hne j hj; omega)
      have hsn := SOwn.snoc (E := encNum) (xs := hs) (x := f + p) (by rw [HS.out]; exact hown5)
      obtain ⟨e4, e5⟩ := HC.out _ hL5
      clear hSS
      refine hK.out _ _ ⟨e4, e5⟩ (fun hHeld => ?_)
      clear hHeld hK K
      try simp only [Act.put, List.getElem_toArray, List.getElem_cons_succ, List.getElem_cons_zero, List.setIfInBounds_toArray, List.set_cons_zero, List.set_cons_succ]
      have hSS : (fun w' => w'.cell? ⟨ga, k * 2, none⟩ = some (.int .i64 f) ∧ w'.cell? ⟨ga, k * 2 + 1, none⟩ = some (.int .i64 d)) w5 := ⟨e4, e5⟩
      refine wpAnyH_take (i := 24) (oi := _) (v := ?_) rfl (by kernel_rfl) (by kernel_rfl) (by kernel_rfl) (fun _ _ _ h => h) (Or.inl ⟨by rfl, ?_⟩) (by assumption) ?_
      (rotate_left); (focus (intro wv hSw; (obtain ⟨qC, qD⟩ := hSw); go_simp; (try with_reducible rfl)))
      try simp only [Act.put, List.getElem_toArray, List.getElem_cons_succ, List.getElem_cons_zero, List.setIfInBounds_toArray, List.set_cons_zero, List.set_cons_succ]
      refine wpAnyH_done (by kernel_rfl) ?_ _
      clear hw1 hw2 hw3 hq
      go_wp2_with fail
      go_roundw
      case rel => exact ⟨k + 1, g5, cap5, hs ++ [f + p], by go_num, rfl, by omega, Lib.hid (by rw [List.length_append, HS.out]; rfl), hsn, hL5, hR5.mono (by push_cast; omega), hX5⟩
      case measure => simp [intOf]; omega
    · obtain rfl : k = m := by omega
      have hki : ¬ (k : Int) < (k : Int) := by omega
      go_wp2_with fail
      refine (odd0_any B _ 12 _ hR (by omega) (by omega) (by omega)).mono ?_; rintro e w3 ⟨bb, rfl, h3, hx3⟩
      have hO3 := hO.extK hx3 (by omega)
      have hL3 := hL.extK hx3 (by omega)
      have hX3 := hX.trans hx3
      have hz9 : w.heap.size ≤ w2.heap.size := by have := hb1.size; omega
      cases bb
      · have HSL : Hid (hs.length = k) := HS
        go_wp2
        go_ret2
        exact ⟨xs, A, cp, hs, some ⟨g, 0, none⟩, cq, (by rw [HM.out, HSL.out]; rfl), (by rw [HM.out]; omega), (by rw [HSL.out]; omega), hL3.mono hb1.size, hO3.mono hz9, hb1.trans (hX3.below (N := w.heap.size) (by omega) hb1.size)⟩
      · by_cases h0 : k = 0
        · have hk1 : ¬ (0 : Int) < (k : Int) := by omega
          have hk2 : ¬ 0 < k := by omega
          have hk3 : decide ((k : Int) > 0) = false := decide_eq_false (by omega)
          have hk4 : decide (0 < k) = false := decide_eq_false (by omega)
          have HSL : Hid (hs.length = k) := HS
          clear h0
          go_wp2
          go_ret2
          exact ⟨xs, A, cp, hs, some ⟨g, 0, none⟩, cq, (by rw [HM.out, HSL.out]; rfl), (by rw [HM.out]; omega), (by rw [HSL.out]; omega), hL3.mono hb1.size, hO3.mono hz9, hb1.trans (hX3.below (N := w.heap.size) (by omega) hb1.size)⟩
        · have hk1 : (0 : Int) < (k : Int) := by omega
          have hk2 : 0 < k := by omega
          have hk3 : decide ((k : Int) > 0) = true := decide_eq_true (by omega)
          have hk4 : decide (0 < k) = true := decide_eq_true (by omega)
          have hk5 : 0 < hs.length := by rw [HS.out]; omega
          have HSL : Hid ((hs.set 0 10).length = k) := Lib.hid (by rw [List.length_set]; exact HS.out)
          have c0 := ownNum hO3 hk5
          have f0 := hO3.frozen 0
          have hgb : w2.heap.size ≤ g := by rcases hO3.form with ⟨e9, _⟩ | ⟨g9, e9, h8, h9⟩; cases e9; cases e9; exact h8
          generalize hs[0] = cur at c0
          clear h0
          have hO4 := setNumO hO3 0 hk5 10
          have hL4 := SOwn.set_farB hL3 (C := g) (fun g9 hg9 => by have := HA2.out g9 hg9; omega) 0 (.int .i64 10)
          have hX4 := hX3.setNew (C := g) (by omega) 0 (.int .i64 10)
          go_wp2
          go_ret2
          exact ⟨xs, A, cp, (hs.set 0 10), some ⟨g, 0, none⟩, cq, (by rw [HM.out, HSL.out]; rfl), (by rw [HM.out]; omega), (by rw [HSL.out]; omega), hL4.mono hb1.size, hO4.mono hz9, hb1.trans (hX4.below (N := w.heap.size) (by omega) hb1.size)⟩
end Go.Proofs.Ytibpaojhjgpdaaa
