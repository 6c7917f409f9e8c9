/- Bands, blinds and lights that are drawn. -/
import Derived.Test.YtpmbjdfecbmgoabZd
import Derived.Test.YtpmbjdfecbmgoabGNum
import Derived.Test.YtpmbjdfecbmgoabBm
namespace Go.Proofs.Ytpmbjdfecbmgoab
open Go Go.ChangeShapes Go.WideShapes Go.ChangeAt Go.RowKit
set_option linter.unusedSimpArgs false
set_option linter.unusedVariables false

def BandIs (B : Nat) (u : Int) (w : World) (e : Ending) (w' : World) : Prop :=
  ∃ lo hi : Int, e = .returned (.agg #[.int .i64 lo, .int .i64 hi]) ∧ (-1 ≤ lo ∧ lo ≤ 60) ∧ (0 ≤ hi ∧ hi ≤ 101) ∧ RdU B u w' ∧ Ext B w w'
def BlindIs (B : Nat) (u : Int) (w : World) (e : Ending) (w' : World) : Prop :=
  ∃ (s : Bool) (t : Int), e = .returned (.agg #[.bool s, .int .i64 t]) ∧ (-1 ≤ t ∧ t ≤ 21) ∧ RdU B u w' ∧ Ext B w w'
def LightsIs (B : Nat) (u : Int) (w : World) (e : Ending) (w' : World) : Prop :=
  ∃ (xs : List Int) (A : Option Addr) (cap : Nat), e = .returned (.slice A xs.length cap) ∧ xs.length ≤ 61 ∧ SOwn encNum w' w.heap.size 3 A cap xs ∧ RdU B u w' ∧ Ext B w w'
set_option maxRecDepth 100000 in
set_option maxHeartbeats 8000000 in
theorem lights_any (B : Nat) (u n : Int) (w : World) (h : RdU B u w) (hu : u ≤ 800000) (hn : 0 ≤ n) (hn1 : n ≤ 1000000) : Calls Try.prog 36 #[.pointer (some ⟨B, 0, none⟩), .int .i64 n] w (LightsIs B (u + 40) w) := by
  have hBw := h.lt
  obtain ⟨i0, hi0, hz0, hz1, hz2⟩ := info_parts infoNum
  have HI := Lib.hid (And.intro hi0 (And.intro hz0 (And.intro hz1 hz2)))
  clear hi0 hz0 hz1 hz2
  go_enter Try.func36, Try.ntmps36
  go_wp2_with fail
  refine (pick_any B (_) 101 _ (h.alloc _) (by omega) (by omega) (by omega)).mono ?_; rintro e w1 ⟨a, rfl, a0, a1, hw1, hxw1⟩
  have hO1 := (SOwn.empty (E := encNum) (blk_new w (.cells #[] 3)) (Nat.le_refl _)).extK hxw1 hBw
  have hE1 := ((Ext.refl B w).alloc (.cells #[] 3)).trans hxw1
  go_wp2_with fail
  refine (pick_any B (_) 30 _ hw1 (by omega) (by omega) (by omega)).mono ?_; rintro e w2 ⟨k0, rfl, k00, k01, hw2, hxw2⟩
  have hO2 := hO1.extK hxw2 hBw
  have hE2 := hE1.trans hxw2
  go_wp2_with fail
  go_loopw [5, 6, 7] (fun vo va vk wr => ∃ (k x : Int) (xs : List Int) (g cp m : Nat), vk = .int .i64 k ∧ va = .int .i64 x ∧ vo = .slice (some ⟨g, 0, none⟩) m cp ∧ 0 ≤ k ∧ (m : Int) + k ≤ 29 ∧ (0 ≤ x ∧ x ≤ 100) ∧ Hid (xs.length = m) ∧ SOwn encNum wr w.heap.size 3 (some ⟨g, 0, none⟩) cp xs ∧ RdU B (u + 2 + (29 - k)) wr ∧ Ext B w wr) (fun _ _ vk _ => (intOf vk).toNat)
  case atStart => exact ⟨k0, a, [], _, 0, 0, rfl, rfl, rfl, k00, by omega, ⟨a0, by omega⟩, (by show _ = _; rfl), hO2, hw2.mono (by omega), hE2⟩
  case round =>
    obtain ⟨k, x, xs, g, cp, m, rfl, rfl, rfl, kk0, mk, ⟨x0, x1⟩, HM, hO, hR, hX⟩ := hrel
    by_cases hk : 0 < k
    · go_wp2_with fail
      refine (pick_any B (_) 61 _ hR (by omega) (by omega) (by omega)).mono ?_; rintro e w3 ⟨c, rfl, c0, c1, hw3, hxw3⟩
      have hO3 := hO.extK hxw3 hBw
      have hX3 := hX.trans hxw3
      have hz3 := hX3.size
      by_cases hy : x + c - 30 < 0
      · have hy2 : ¬ (100 : Int) < 0 := by omega
        go_wp2_with (at_builtin; refine wpList_append_lies _ rfl (.tmp 24) (.tmp 26) _ rfl w.heap.size 3 i0 _ 1 8 Try.underlying28 HI.out.1 HI.out.2.1 HI.out.2.2.1 HI.out.2.2.2 rfl (by omega) (.slice (some ⟨g, 0, none⟩) m cp) m (encNum.flat xs) rfl (by have q := hO3.alloc (.cells (encNum.enc (0)).toArray 3); unfold SOwn at q; rw [HM.out] at q; exact q) ⟨w3.heap.size, 0, none⟩ 1 1 (encNum.enc (0)) rfl rfl (new_enc (E := encNum) w3 (0) _) (encNum.one _) (by omega) (by simp only [maxLen]; omega) (by omega) (by simp; omega) _ rfl ?_; intro g5 cap5 w7 hown5 hgr5 hat5 hlt5)
        have hne : ∀ k, Value.ownBlock (.slice (some ⟨g, 0, none⟩) m cp) = some k → B < k := fun k hk => by have := SOwn.ge_baseK (hO3.alloc (.cells (encNum.enc (0)).toArray 3)) k hk; omega
        have hB5 := (hw3.alloc (.cells (encNum.enc (0)).toArray 3)).farK hgr5 hne
        have hE5 := (hX3.alloc (.cells (encNum.enc (0)).toArray 3)).far_grownK hgr5 (SOwn.ge_baseK (hO3.alloc (.cells (encNum.enc (0)).toArray 3)))
        go_wp2_with fail
        go_roundw
        case rel => exact ⟨k - 1, 0, xs ++ [0], g5, cap5, m + 1, by go_num, rfl, rfl, by omega, by push_cast; omega, ⟨by omega, by omega⟩, (by show _ = _; rw [List.length_append, HM.out]; rfl), SOwn.snoc (E := encNum) (by rw [HM.out]; exact hown5), hB5.mono (by omega), hE5⟩
        case measure => simp [intOf]; omega
      · by_cases hy3 : 100 < x + c - 30
        · go_wp2_with (at_builtin; refine wpList_append_lies _ rfl (.tmp 24) (.tmp 26) _ rfl w.heap.size 3 i0 _ 1 8 Try.underlying28 HI.out.1 HI.out.2.1 HI.out.2.2.1 HI.out.2.2.2 rfl (by omega) (.slice (some ⟨g, 0, none⟩) m cp) m (encNum.flat xs) rfl (by have q := hO3.alloc (.cells (encNum.enc (100)).toArray 3); unfold SOwn at q; rw [HM.out] at q; exact q) ⟨w3.heap.size, 0, none⟩ 1 1 (encNum.enc (100)) rfl rfl (new_enc (E := encNum) w3 (100) _) (encNum.one _) (by omega) (by simp only [maxLen]; omega) (by omega) (by simp; omega) _ rfl ?_; intro g5 cap5 w7 hown5 hgr5 hat5 hlt5)
          have hne : ∀ k, Value.ownBlock (.slice (some ⟨g, 0, none⟩) m cp) = some k → B < k := fun k hk => by have := SOwn.ge_baseK (hO3.alloc (.cells (encNum.enc (100)).toArray 3)) k hk; omega
          have hB5 := (hw3.alloc (.cells (encNum.enc (100)).toArray 3)).farK hgr5 hne
          have hE5 := (hX3.alloc (.cells (encNum.enc (100)).toArray 3)).far_grownK hgr5 (SOwn.ge_baseK (hO3.alloc (.cells (encNum.enc (100)).toArray 3)))
          go_wp2_with fail
          go_roundw
          case rel => exact ⟨k - 1, 100, xs ++ [100], g5, cap5, m + 1, by go_num, rfl, rfl, by omega, by push_cast; omega, ⟨by omega, by omega⟩, (by show _ = _; rw [List.length_append, HM.out]; rfl), SOwn.snoc (E := encNum) (by rw [HM.out]; exact hown5), hB5.mono (by omega), hE5⟩
          case measure => simp [intOf]; omega
        · go_wp2_with (at_builtin; refine wpList_append_lies _ rfl (.tmp 24) (.tmp 26) _ rfl w.heap.size 3 i0 _ 1 8 Try.underlying28 HI.out.1 HI.out.2.1 HI.out.2.2.1 HI.out.2.2.2 rfl (by omega) (.slice (some ⟨g, 0, none⟩) m cp) m (encNum.flat xs) rfl (by have q := hO3.alloc (.cells (encNum.enc (x + c - 30)).toArray 3); unfold SOwn at q; rw [HM.out] at q; exact q) ⟨w3.heap.size, 0, none⟩ 1 1 (encNum.enc (x + c - 30)) rfl rfl (new_enc (E := encNum) w3 (x + c - 30) _) (encNum.one _) (by omega) (by simp only [maxLen]; omega) (by omega) (by simp; omega) _ rfl ?_; intro g5 cap5 w7 hown5 hgr5 hat5 hlt5)
          have hne : ∀ k, Value.ownBlock (.slice (some ⟨g, 0, none⟩) m cp) = some k → B < k := fun k hk => by have := SOwn.ge_baseK (hO3.alloc (.cells (encNum.enc (x + c - 30)).toArray 3)) k hk; omega
          have hB5 := (hw3.alloc (.cells (encNum.enc (x + c - 30)).toArray 3)).farK hgr5 hne
          have hE5 := (hX3.alloc (.cells (encNum.enc (x + c - 30)).toArray 3)).far_grownK hgr5 (SOwn.ge_baseK (hO3.alloc (.cells (encNum.enc (x + c - 30)).toArray 3)))
          go_wp2_with fail
          go_roundw
          case rel => exact ⟨k - 1, x + c - 30, xs ++ [x + c - 30], g5, cap5, m + 1, by go_num, rfl, rfl, by omega, by push_cast; omega, ⟨by omega, by omega⟩, (by show _ = _; rw [List.length_append, HM.out]; rfl), SOwn.snoc (E := encNum) (by rw [HM.out]; exact hown5), hB5.mono (by omega), hE5⟩
          case measure => simp [intOf]; omega
    · obtain rfl : k = 0 := by omega
      have hm5 : m ≤ 29 := by omega
      go_wp2_with fail
      refine (odd0_any B _ n _ hR (by omega) hn hn1).mono ?_; rintro e w3 ⟨b, rfl, hw3, hxw3⟩
      have hO3 := hO.extK hxw3 hBw
      have hX3 := hX.trans hxw3
      cases b
      · go_wp2_with fail
        go_ret
        exact ⟨xs, _, cp, (by rw [HM.out]; rfl), (by rw [HM.out]; omega), hO3, hw3.mono (by omega), hX3⟩
      · go_wp2_with fail
        refine (pick_any B (_) 2 _ hw3 (by omega) (by omega) (by omega)).mono ?_; rintro e w4 ⟨j, rfl, j0, j1, hw4, hxw4⟩
        have hO4 := hO3.extK hxw4 hBw
        have hX4 := hX3.trans hxw4
        have hz4 := hX4.size
        by_cases c : j = 0
        · subst c
          go_wp2_with (at_make; refine wpList_make_structs _ encNum (0 : Int) rfl _ _ 28 rfl 3 i0 _ Try.underlying28 HI.out.1 HI.out.2.1 HI.out.2.2.1 rfl .i64 .i64 61 rfl rfl (by rw [HI.out.2.2.2]; omega) (by omega) ?_)
          go_ret
          exact ⟨List.replicate 61 0, _, 61, by simp, by simp, SOwn.of_blk (E := encNum) (blk_new w4 _) hz4 (by simp) (by unfold maxLen; omega), (hw4.alloc _).mono (by omega), hX4.alloc _⟩
        · have e0 : (j == 0) = false := by rw [beq_eq_false_iff_ne]; omega
          clear c
          go_wp2_with fail
          have hB4 := hw4.lt
          refine (pick_any B (_) 2 _ (hw4.alloc _) (by omega) (by omega) (by omega)).mono ?_; rintro e w5 ⟨d, rfl, d0, d1, hw5, hxw5⟩
          have hO5 := (hO4.alloc (.cells #[.int .i64 (-1), .int .i64 101] 3)).extK hxw5 hBw
          have hX5 := (hX4.alloc (.cells #[.int .i64 (-1), .int .i64 101] 3)).trans hxw5
          have hL := blk_ext (blk_new w4 (.cells #[.int .i64 (-1), .int .i64 101] 3)) hxw5 (by omega)
          obtain ⟨l0, l1, _, _, zL⟩ := blk2 hL
          have hz5 := hX5.size
          by_cases k1 : d = 0
          · subst k1
            go_wp2_with (at_builtin; refine wpList_append_lies _ rfl (.tmp 35) (.tmp 41) _ rfl w.heap.size 3 i0 _ 1 8 Try.underlying28 HI.out.1 HI.out.2.1 HI.out.2.2.1 HI.out.2.2.2 rfl (by omega) (.slice (some ⟨g, 0, none⟩) m cp) m (encNum.flat xs) rfl (by have q := hO5.alloc (.cells (encNum.enc ((-1))).toArray 3); unfold SOwn at q; rw [HM.out] at q; exact q) ⟨w5.heap.size, 0, none⟩ 1 1 (encNum.enc ((-1))) rfl rfl (new_enc (E := encNum) w5 ((-1)) _) (encNum.one _) (by omega) (by simp only [maxLen]; omega) (by omega) (by simp; omega) _ rfl ?_; intro g5 cap5 w7 hown5 hgr5 hat5 hlt5)
            have hne : ∀ k, Value.ownBlock (.slice (some ⟨g, 0, none⟩) m cp) = some k → B < k := fun k hk => by have := SOwn.ge_baseK (hO5.alloc (.cells (encNum.enc ((-1))).toArray 3)) k hk; omega
            have hB5 := (hw5.alloc (.cells (encNum.enc ((-1))).toArray 3)).farK hgr5 hne
            have hE5 := (hX5.alloc (.cells (encNum.enc ((-1))).toArray 3)).far_grownK hgr5 (SOwn.ge_baseK (hO5.alloc (.cells (encNum.enc ((-1))).toArray 3)))
            go_wp2_with fail
            go_ret
            have hsn := SOwn.snoc (E := encNum) (xs := xs) (x := (-1)) (by rw [HM.out]; exact hown5)
            exact ⟨xs ++ [(-1)], _, cap5, (by rw [List.length_append, HM.out]; rfl), (by rw [List.length_append, HM.out]; simp; omega), hsn, hB5.mono (by omega), hE5⟩
          · obtain rfl : d = 1 := by omega
            go_wp2_with (at_builtin; refine wpList_append_lies _ rfl (.tmp 35) (.tmp 41) _ rfl w.heap.size 3 i0 _ 1 8 Try.underlying28 HI.out.1 HI.out.2.1 HI.out.2.2.1 HI.out.2.2.2 rfl (by omega) (.slice (some ⟨g, 0, none⟩) m cp) m (encNum.flat xs) rfl (by have q := hO5.alloc (.cells (encNum.enc (101)).toArray 3); unfold SOwn at q; rw [HM.out] at q; exact q) ⟨w5.heap.size, 0, none⟩ 1 1 (encNum.enc (101)) rfl rfl (new_enc (E := encNum) w5 (101) _) (encNum.one _) (by omega) (by simp only [maxLen]; omega) (by omega) (by simp; omega) _ rfl ?_; intro g5 cap5 w7 hown5 hgr5 hat5 hlt5)
            have hne : ∀ k, Value.ownBlock (.slice (some ⟨g, 0, none⟩) m cp) = some k → B < k := fun k hk => by have := SOwn.ge_baseK (hO5.alloc (.cells (encNum.enc (101)).toArray 3)) k hk; omega
            have hB5 := (hw5.alloc (.cells (encNum.enc (101)).toArray 3)).farK hgr5 hne
            have hE5 := (hX5.alloc (.cells (encNum.enc (101)).toArray 3)).far_grownK hgr5 (SOwn.ge_baseK (hO5.alloc (.cells (encNum.enc (101)).toArray 3)))
            go_wp2_with fail
            go_ret
            have hsn := SOwn.snoc (E := encNum) (xs := xs) (x := 101) (by rw [HM.out]; exact hown5)
            exact ⟨xs ++ [101], _, cap5, (by rw [List.length_append, HM.out]; rfl), (by rw [List.length_append, HM.out]; simp; omega), hsn, hB5.mono (by omega), hE5⟩
end Go.Proofs.Ytpmbjdfecbmgoab
