/- What the laws of bands, blinds and lights draw. -/
import Derived.Test.YtpmbjdfecbmgoaaBd
import Derived.Test.YtpmbjdfecbmgoaaGBool
namespace Go.Proofs.Ytpmbjdfecbmgoaa
open Go Go.ChangeShapes Go.WideShapes Go.ChangeAt Go.RowKit
set_option linter.unusedSimpArgs false
set_option linter.unusedVariables false

def BandedIs (B : Nat) (u : Int) (w : World) (e : Ending) (w' : World) : Prop :=
  ∃ (s : Bool) (lo hi : Int) (xs : List Int) (A : Option Addr) (cap : Nat), e = .returned (.tuple #[.bool s, .agg #[.int .i64 lo, .int .i64 hi], .slice A xs.length cap]) ∧ (-1 ≤ lo ∧ lo ≤ 60) ∧ (0 ≤ hi ∧ hi ≤ 101) ∧ xs.length ≤ 61 ∧ SOwn encNum w' w.heap.size 3 A cap xs ∧ RdU B u w' ∧ Ext B w w'
theorem SOwn.far2K {α : Type} {E : Enc α} {w : World} {base b cap : Nat} {T : TypeId} {A : Option Addr} {xs : List α} (h : SOwn E w base T A cap xs) (hb : b < base) (u v : Value) : SOwn E ((w.setCell ⟨b, 0, none⟩ u).setCell ⟨b, 1, none⟩ v) base T A cap xs := by
  have hg : w.grownBy ((w.setCell ⟨b, 0, none⟩ u).setCell ⟨b, 1, none⟩ v) (some b) := setAll_grown [u, v] 0 ⟨rfl, rfl, rfl, Nat.le_refl _, fun _ _ _ => rfl⟩
  refine h.grown_far hg (fun g hg e => ?_)
  rcases h.form with ⟨rfl, _⟩ | ⟨g1, rfl, h1, _⟩
  · cases hg
  · simp at hg e; omega
set_option maxRecDepth 100000 in
set_option maxHeartbeats 8000000 in
theorem banded_any (B : Nat) (u : Int) (w : World) (h : RdU B u w) (hu : u ≤ 500000) : Calls Try.prog 51 #[.pointer (some ⟨B, 0, none⟩)] w (BandedIs B (u + 60) w) := by
  have hBw := h.lt
  go_enter Try.func51, Try.ntmps51
  go_wp2_with fail
  refine (pick_any B (_) 2 _ (h.alloc _) (by omega) (by omega) (by omega)).mono ?_; rintro e w1 ⟨a, rfl, a0, a1, hw1, hxw1⟩
  have hR := blk_ext (blk_new w (.cells #[.int .i64 0, .int .i64 0] 24)) hxw1 (by omega)
  have hE := ((Ext.refl B w).alloc (.cells #[.int .i64 0, .int .i64 0] 24)).trans hxw1
  go_wp2_with fail
  refine (band_any B _ 12 _ hw1 (by omega) (by omega) (by omega)).mono ?_; rintro e w2 ⟨lo, hi, rfl, ⟨lo0, lo1⟩, ⟨hi0, hi1⟩, hw2, hxw2⟩
  have hR2 := blk_ext hR hxw2 (by omega)
  have hE2 := hE.trans hxw2
  go_wp2_with fail
  refine (lights_any B _ 12 _ hw2 (by omega) (by omega) (by omega)).mono ?_; rintro e w3 ⟨xs, A, cap, rfl, hx6, hO, hw3, hxw3⟩
  have hR3 := blk_ext hR2 hxw3 (by omega)
  have hE3 := hE2.trans hxw3
  have hz := hE2.size
  have hRz := blk_lt hR2
  generalize (a == 0) = s
  obtain ⟨r0, r1, s0, s1, zR⟩ := blk2 hR3
  go_wp2_with fail
  exact bodyPost_ret (v := .tuple #[.bool s, .agg #[.int .i64 lo, .int .i64 hi], .slice A xs.length cap]) (by simp [results, Try.results51, go_sem, r0, r1]) rfl ⟨s, lo, hi, xs, A, cap, rfl, ⟨lo0, lo1⟩, ⟨hi0, hi1⟩, hx6, SOwn.mono (SOwn.far2K hO hRz _ _) hz, (((hw3.mono (u' := u + 60) (by omega)).setOther (by omega) _).setOther (by omega) _), ((hE3.setNew (by omega) _ _).setNew (by omega) _ _)⟩
def DrewBand (w : World) (e : Ending) (w' : World) : Prop := ∃ lo hi : Int, e = .returned (.agg #[.int .i64 lo, .int .i64 hi]) ∧ (-1 ≤ lo ∧ lo ≤ 60) ∧ (0 ≤ hi ∧ hi ≤ 101) ∧ Below w.heap.size w w'
def DrewBlind (w : World) (e : Ending) (w' : World) : Prop := ∃ (s : Bool) (t : Int), e = .returned (.agg #[.bool s, .int .i64 t]) ∧ (-1 ≤ t ∧ t ≤ 21) ∧ Below w.heap.size w w'
def DrewLights (w : World) (e : Ending) (w' : World) : Prop := ∃ (xs : List Int) (A : Option Addr) (cap : Nat), e = .returned (.slice A xs.length cap) ∧ xs.length ≤ 61 ∧ SOwn encNum w' w.heap.size 3 A cap xs ∧ Below w.heap.size w w'
def DrewBanded (w : World) (e : Ending) (w' : World) : Prop := ∃ (s : Bool) (lo hi : Int) (xs : List Int) (A : Option Addr) (cap : Nat), e = .returned (.tuple #[.bool s, .agg #[.int .i64 lo, .int .i64 hi], .slice A xs.length cap]) ∧ (-1 ≤ lo ∧ lo ≤ 60) ∧ (0 ≤ hi ∧ hi ≤ 101) ∧ xs.length ≤ 61 ∧ SOwn encNum w' w.heap.size 3 A cap xs ∧ Below w.heap.size w w'
set_option maxRecDepth 100000 in
set_option maxHeartbeats 4000000 in
theorem drBandValid_any (a : Option Addr) (len cap : Nat) (w : World) (h : CodeOk w a len cap) : Calls Try.prog 12 #[.slice a len cap] w (DrewBand w) := by
  go_enter Try.func12, Try.ntmps12
  go_wp2_with fail
  refine (open_any _ _ _ _ (code_below h (bel1 w (.cells #[.int .i64 0, .int .i64 0] 24)))).mono ?_; rintro e w1 ⟨B, rfl, hB, h1, hb1⟩
  obtain ⟨hR1, hB1⟩ := ownb hb1
  simp at hB
  go_wp2_with fail
  refine (band_any B 0 2 _ h1 (by omega) (by omega) (by omega)).mono ?_; rintro e w2 ⟨lo, hi, rfl, hl, hh, _, hx⟩
  have hR2 := blk_ext hR1 hx (by omega)
  obtain ⟨r0, r1, s0, s1, zR⟩ := blk2 hR2
  have hB2 := hB1.trans (hx.below (N := w.heap.size) (by omega) hB1.size)
  go_wp2_with fail
  exact bodyPost_ret (v := .agg #[.int .i64 lo, .int .i64 hi]) (by simp [results, Try.results12, go_sem, r0, r1]) rfl ⟨lo, hi, rfl, hl, hh, store2_bel hB2 (Nat.le_refl _) _ _⟩
set_option maxRecDepth 100000 in
set_option maxHeartbeats 4000000 in
theorem drBlindValid_any (a : Option Addr) (len cap : Nat) (w : World) (h : CodeOk w a len cap) : Calls Try.prog 32 #[.slice a len cap] w (DrewBlind w) := by
  go_enter Try.func32, Try.ntmps32
  go_wp2_with fail
  refine (open_any _ _ _ _ (code_below h (bel1 w (.cells #[.bool false, .int .i64 0] 45)))).mono ?_; rintro e w1 ⟨B, rfl, hB, h1, hb1⟩
  obtain ⟨hR1, hB1⟩ := ownb hb1
  simp at hB
  go_wp2_with fail
  refine (blind_any B 0 2 _ h1 (by omega) (by omega) (by omega)).mono ?_; rintro e w2 ⟨s, t, rfl, ht, _, hx⟩
  have hR2 := blk_ext hR1 hx (by omega)
  obtain ⟨r0, r1, s0, s1, zR⟩ := blk2 hR2
  have hB2 := hB1.trans (hx.below (N := w.heap.size) (by omega) hB1.size)
  go_wp2_with fail
  exact bodyPost_ret (v := .agg #[.bool s, .int .i64 t]) (by simp [results, Try.results32, go_sem, r0, r1]) rfl ⟨s, t, rfl, ht, store2_bel hB2 (Nat.le_refl _) _ _⟩
set_option maxRecDepth 100000 in
set_option maxHeartbeats 4000000 in
theorem drLightsValid_any (a : Option Addr) (len cap : Nat) (w : World) (h : CodeOk w a len cap) : Calls Try.prog 16 #[.slice a len cap] w (DrewLights w) := by
  go_enter Try.func16, Try.ntmps16
  go_wp2_with fail
  refine (open_any _ _ _ _ h).mono ?_; rintro e w1 ⟨B, rfl, hB, h1, hb1⟩
  go_wp2_with fail
  refine (lights_any B 0 2 _ h1 (by omega) (by omega) (by omega)).mono ?_; rintro e w2 ⟨xs, A, cp, rfl, hx6, hO, _, hx⟩
  have hB2 := hb1.trans (hx.below (N := w.heap.size) (by omega) hb1.size)
  go_wp2_with fail
  go_ret
  exact ⟨xs, A, cp, rfl, hx6, hO.mono hb1.size, hB2⟩
set_option maxRecDepth 100000 in
set_option maxHeartbeats 4000000 in
theorem drBandRun_any (a : Option Addr) (len cap : Nat) (w : World) (h : CodeOk w a len cap) : Calls Try.prog 22 #[.slice a len cap] w (DrewBanded w) := by
  go_enter Try.func22, Try.ntmps22
  go_wp2_with fail
  refine (open_any _ _ _ _ (code_below h (bel1 w (.cells #[.int .i64 0, .int .i64 0] 24)))).mono ?_; rintro e w1 ⟨B, rfl, hB, h1, hb1⟩
  obtain ⟨hR1, hB1⟩ := ownb hb1
  simp at hB
  go_wp2_with fail
  refine (banded_any B 0 _ h1 (by omega)).mono ?_; rintro e w2 ⟨s, lo, hi, xs, A, cp, rfl, hl, hh, hx6, hO, _, hx⟩
  have hR2 := blk_ext hR1 hx (by omega)
  have hzR := blk_lt hR1
  obtain ⟨r0, r1, s0, s1, zR⟩ := blk2 hR2
  have hB2 := hB1.trans (hx.below (N := w.heap.size) (by omega) hB1.size)
  have hO2 := hO.far2K hzR (.int .i64 lo) (.int .i64 hi)
  go_wp2_with fail
  exact bodyPost_ret (v := .tuple #[.bool s, .agg #[.int .i64 lo, .int .i64 hi], .slice A xs.length cp]) (by simp [results, Try.results22, go_sem, r0, r1]) rfl ⟨s, lo, hi, xs, A, cp, rfl, hl, hh, hx6, hO2.mono hB1.size, store2_bel hB2 (Nat.le_refl _) _ _⟩
set_option maxRecDepth 100000 in
set_option maxHeartbeats 4000000 in
theorem drBandCrosses_any (a : Option Addr) (len cap : Nat) (w : World) (h : CodeOk w a len cap) : Calls Try.prog 30 #[.slice a len cap] w (DrewBanded w) := by
  go_enter Try.func30, Try.ntmps30
  go_wp2_with fail
  refine (open_any _ _ _ _ (code_below h (bel1 w (.cells #[.int .i64 0, .int .i64 0] 24)))).mono ?_; rintro e w1 ⟨B, rfl, hB, h1, hb1⟩
  obtain ⟨hR1, hB1⟩ := ownb hb1
  simp at hB
  go_wp2_with fail
  refine (banded_any B 0 _ h1 (by omega)).mono ?_; rintro e w2 ⟨s, lo, hi, xs, A, cp, rfl, hl, hh, hx6, hO, _, hx⟩
  have hR2 := blk_ext hR1 hx (by omega)
  have hzR := blk_lt hR1
  obtain ⟨r0, r1, s0, s1, zR⟩ := blk2 hR2
  have hB2 := hB1.trans (hx.below (N := w.heap.size) (by omega) hB1.size)
  have hO2 := hO.far2K hzR (.int .i64 lo) (.int .i64 hi)
  go_wp2_with fail
  exact bodyPost_ret (v := .tuple #[.bool s, .agg #[.int .i64 lo, .int .i64 hi], .slice A xs.length cp]) (by simp [results, Try.results30, go_sem, r0, r1]) rfl ⟨s, lo, hi, xs, A, cp, rfl, hl, hh, hx6, hO2.mono hB1.size, store2_bel hB2 (Nat.le_refl _) _ _⟩
def DrewChanges (w : World) (e : Ending) (w' : World) : Prop := ∃ (p : Bool) (xs : List Bool) (A : Option Addr) (cap : Nat), e = .returned (.tuple #[.bool p, .slice A xs.length cap]) ∧ xs.length ≤ 12 ∧ SOwn encBool w' w.heap.size 4 A cap xs ∧ Below w.heap.size w w'
set_option maxRecDepth 100000 in
set_option maxHeartbeats 4000000 in
theorem drChanges_any (a : Option Addr) (len cap : Nat) (w : World) (h : CodeOk w a len cap) : Calls Try.prog 28 #[.slice a len cap] w (DrewChanges w) := by
  obtain ⟨i0, hi0, hz0, hz1, hz2⟩ := info_parts infoBool
  have HI := Lib.hid (And.intro hi0 (And.intro hz0 (And.intro hz1 hz2)))
  clear hi0 hz0 hz1 hz2
  go_enter Try.func28, Try.ntmps28
  go_wp2_with fail
  refine (open_any _ _ _ _ h).mono ?_; rintro e w1 ⟨B, rfl, hB, h1, hb1⟩
  have hBw := h1.lt
  have hb1z := hb1.size
  go_wp2_with fail
  refine (pick_any B 0 12 _ (h1.alloc _) (by omega) (by omega) (by omega)).mono ?_; rintro e w2 ⟨k0, rfl, k00, k01, hw2, hxw2⟩
  have hO2 := (SOwn.empty (E := encBool) (blk_new w1 (.cells #[] 4)) (Nat.le_refl _)).extK hxw2 hBw
  have hE2 := ((Ext.refl B w1).alloc (.cells #[] 4)).trans hxw2
  go_wp2_with fail
  go_loopw [5, 6] (fun vo vk wr => ∃ (k : Int) (xs : List Bool) (g cp m : Nat), vk = .int .i64 k ∧ vo = .slice (some ⟨g, 0, none⟩) m cp ∧ 0 ≤ k ∧ (m : Int) + k ≤ 11 ∧ Hid (xs.length = m) ∧ SOwn encBool wr w1.heap.size 4 (some ⟨g, 0, none⟩) cp xs ∧ RdU B (1 + (11 - k)) wr ∧ Ext B w1 wr) (fun _ vk _ => (intOf vk).toNat)
  case atStart => exact ⟨k0, [], _, 0, 0, rfl, rfl, k00, by omega, (by show _ = _; rfl), hO2, hw2.mono (by omega), hE2⟩
  case round =>
    obtain ⟨k, xs, g, cp, m, rfl, rfl, kk0, mk, HM, hO, hR, hX⟩ := hrel
    by_cases hk : 0 < k
    · go_wp2_with fail
      refine (pick_any B (_) 2 _ hR (by omega) (by omega) (by omega)).mono ?_; rintro e w3 ⟨c, rfl, c0, c1, hw3, hxw3⟩
      have hO3 := hO.extK hxw3 hBw
      have hX3 := hX.trans hxw3
      have hz3 := hX3.size
      go_wp2_with (at_builtin; refine wpList_append_lies _ rfl (.tmp 16) (.tmp 20) _ rfl w1.heap.size 4 i0 _ 1 1 Try.underlying37 HI.out.1 HI.out.2.1 HI.out.2.2.1 HI.out.2.2.2 rfl (by omega) (.slice (some ⟨g, 0, none⟩) m cp) m (encBool.flat xs) rfl (by have q := hO3.alloc (.cells (encBool.enc ((c == 0))).toArray 4); unfold SOwn at q; rw [HM.out] at q; exact q) ⟨w3.heap.size, 0, none⟩ 1 1 (encBool.enc ((c == 0))) rfl rfl (new_enc (E := encBool) w3 ((c == 0)) _) (encBool.one _) (by omega) (by simp only [maxLen]; omega) (by omega) (by simp; omega) _ rfl ?_; intro g5 cap5 w7 hown5 hgr5 hat5 hlt5)
      have hne : ∀ k, Value.ownBlock (.slice (some ⟨g, 0, none⟩) m cp) = some k → B < k := fun k hk => by have := SOwn.ge_baseK (hO3.alloc (.cells (encBool.enc (c == 0)).toArray 4)) k hk; omega
      have hB5 := (hw3.alloc (.cells (encBool.enc (c == 0)).toArray 4)).farK hgr5 hne
      have hE5 := (hX3.alloc (.cells (encBool.enc (c == 0)).toArray 4)).far_grownK hgr5 (SOwn.ge_baseK (hO3.alloc (.cells (encBool.enc (c == 0)).toArray 4)))
      go_wp2_with fail
      go_roundw
      case rel => exact ⟨k - 1, xs ++ [(c == 0)], g5, cap5, m + 1, by go_num, rfl, by omega, by push_cast; omega, (by show _ = _; rw [List.length_append, HM.out]; rfl), SOwn.snoc (E := encBool) (by rw [HM.out]; exact hown5), hB5.mono (by omega), hE5⟩
      case measure => simp [intOf]; omega
    · obtain rfl : k = 0 := by omega
      have hm5 : m ≤ 11 := by omega
      go_wp2_with fail
      refine (pick_any B (_) 2 _ hR (by omega) (by omega) (by omega)).mono ?_; rintro e w3 ⟨c, rfl, c0, c1, hw3, hxw3⟩
      have hO3 := hO.extK hxw3 hBw
      have hX3 := hX.trans hxw3
      have hB3 := hb1.trans (hX3.below (N := w.heap.size) (by omega) hb1.size)
      go_wp2_with fail
      go_ret2
      exact ⟨(c == 0), xs, _, cp, (by rw [HM.out]; rfl), (by rw [HM.out]; omega), hO3.mono hb1z, hB3⟩
def DrewPause (w : World) (e : Ending) (w' : World) : Prop := ∃ (s : Bool) (t lo hi p x : Int), e = .returned (.tuple #[.agg #[.bool s, .int .i64 t], .agg #[.int .i64 lo, .int .i64 hi], .int .i64 p, .int .i64 x]) ∧ (-1 ≤ t ∧ t ≤ 21) ∧ (-1 ≤ lo ∧ lo ≤ 60) ∧ (0 ≤ hi ∧ hi ≤ 101) ∧ (-20 ≤ p ∧ p ≤ 40) ∧ (0 ≤ x ∧ x ≤ 100) ∧ Below w.heap.size w w'
set_option maxRecDepth 100000 in
set_option maxHeartbeats 4000000 in
theorem drPauseStep_any (a : Option Addr) (len cap : Nat) (w : World) (h : CodeOk w a len cap) : Calls Try.prog 35 #[.slice a len cap] w (DrewPause w) := by
  go_enter Try.func35, Try.ntmps35
  go_wp2_with fail
  refine (open_any _ _ _ _ (code_below h (bel2 w (.cells #[.bool false, .int .i64 0] 45) (.cells #[.int .i64 0, .int .i64 0] 24)))).mono ?_; rintro e w1 ⟨B, rfl, hB, h1, hb1⟩
  obtain ⟨hP1, hQ1, hB1⟩ := ownb2 hb1
  simp at hB
  go_wp2_with fail
  refine (blind_any B 0 12 _ h1 (by omega) (by omega) (by omega)).mono ?_; rintro e w2 ⟨s, t, rfl, ht, h2, hx2⟩
  go_wp2_with fail
  refine (band_any B _ 12 _ h2 (by omega) (by omega) (by omega)).mono ?_; rintro e w3 ⟨lo, hi, rfl, hl, hh, h3, hx3⟩
  have hx3 := hx2.trans hx3
  go_wp2_with fail
  refine (pick_any B _ 9 _ h3 (by omega) (by omega) (by omega)).mono ?_; rintro e w4 ⟨a, rfl, a0, a1, h4, hx4⟩
  have hx4 := hx3.trans hx4
  go_wp2_with fail
  refine (pick_any B _ 30 _ h4 (by omega) (by omega) (by omega)).mono ?_; rintro e w5 ⟨c, rfl, c0, c1, h5, hx5⟩
  have hx5 := hx4.trans hx5
  obtain ⟨y, hy⟩ : ∃ y, Int.tdiv c 29 = y := ⟨_, rfl⟩
  have hy9 : 0 ≤ y ∧ y ≤ 1 := by rw [← hy, Int.tdiv_eq_ediv_of_nonneg c0]; omega
  obtain ⟨y0, y1⟩ := hy9
  have hyy : c / 29 = y := by rw [← hy, Int.tdiv_eq_ediv_of_nonneg c0]
  go_wp2_with fail
  refine (pick_any B _ 30 _ h5 (by omega) (by omega) (by omega)).mono ?_; rintro e w6 ⟨d, rfl, d0, d1, h6, hx6⟩
  have hx6 := hx5.trans hx6
  obtain ⟨z, hz⟩ : ∃ z, Int.tdiv d 29 = z := ⟨_, rfl⟩
  have hz9 : 0 ≤ z ∧ z ≤ 1 := by rw [← hz, Int.tdiv_eq_ediv_of_nonneg d0]; omega
  obtain ⟨z0, z1⟩ := hz9
  have hzz : d / 29 = z := by rw [← hz, Int.tdiv_eq_ediv_of_nonneg d0]
  go_wp2_with fail
  refine (pick_any B _ 101 _ h6 (by omega) (by omega) (by omega)).mono ?_; rintro e w7 ⟨x, rfl, x0, x1, h7, hx7⟩
  have hx7 := hx6.trans hx7
  have hP7 := blk_ext hP1 hx7 (by omega)
  have hQ7 := blk_ext hQ1 hx7 (by omega)
  have hB7 := hB1.trans (hx7.below (N := w.heap.size) (by omega) hB1.size)
  obtain ⟨p0, p1, s0, s1, zP⟩ := blk2 hP7
  obtain ⟨q0, q1, f0, f1, zQ⟩ := blk2 hQ7
  have hP8 := blk_store2 (C := w.heap.size + 1) (blk2_set (a := .bool s) (b := .int .i64 t) hP7) (by omega) (.int .i64 lo) (.int .i64 hi)
  have hQ8 := blk2_set (a := .int .i64 lo) (b := .int .i64 hi) (blk_store2 (C := w.heap.size) hQ7 (by omega) (.bool s) (.int .i64 t))
  obtain ⟨m0, m1, _, _, _⟩ := blk2 hP8
  obtain ⟨n0, n1, _, _, _⟩ := blk2 hQ8
  go_wp2_with fail
  exact bodyPost_ret (v := .tuple #[.agg #[.bool s, .int .i64 t], .agg #[.int .i64 lo, .int .i64 hi], .int .i64 (a + y * 21 - z * 20), .int .i64 x]) (by simp [results, Try.results35, go_sem, m0, m1, n0, n1]) rfl ⟨s, t, lo, hi, a + y * 21 - z * 20, x, rfl, ht, hl, hh, ⟨by omega, by omega⟩, ⟨x0, by omega⟩, store2_bel (store2_bel hB7 (Nat.le_refl _) _ _) (by omega) _ _⟩
def DrewPauses (w : World) (e : Ending) (w' : World) : Prop := ∃ (s : Bool) (t lo hi p : Int) (xs : List Int) (A : Option Addr) (cap : Nat), e = .returned (.tuple #[.agg #[.bool s, .int .i64 t], .agg #[.int .i64 lo, .int .i64 hi], .int .i64 p, .slice A xs.length cap]) ∧ (-1 ≤ t ∧ t ≤ 21) ∧ (-1 ≤ lo ∧ lo ≤ 60) ∧ (0 ≤ hi ∧ hi ≤ 101) ∧ (-20 ≤ p ∧ p ≤ 40) ∧ xs.length ≤ 61 ∧ SOwn encNum w' w.heap.size 3 A cap xs ∧ Below w.heap.size w w'
set_option maxRecDepth 100000 in
set_option maxHeartbeats 4000000 in
theorem drPauseRun_any (a : Option Addr) (len cap : Nat) (w : World) (h : CodeOk w a len cap) : Calls Try.prog 38 #[.slice a len cap] w (DrewPauses w) := by
  go_enter Try.func38, Try.ntmps38
  go_wp2_with fail
  refine (open_any _ _ _ _ (code_below h (bel2 w (.cells #[.bool false, .int .i64 0] 45) (.cells #[.int .i64 0, .int .i64 0] 24)))).mono ?_; rintro e w1 ⟨B, rfl, hB, h1, hb1⟩
  obtain ⟨hP1, hQ1, hB1⟩ := ownb2 hb1
  simp at hB
  go_wp2_with fail
  refine (blind_any B 0 14 _ h1 (by omega) (by omega) (by omega)).mono ?_; rintro e w2 ⟨s, t, rfl, ht, h2, hx2⟩
  go_wp2_with fail
  refine (band_any B _ 14 _ h2 (by omega) (by omega) (by omega)).mono ?_; rintro e w3 ⟨lo, hi, rfl, hl, hh, h3, hx3⟩
  have hx3 := hx2.trans hx3
  go_wp2_with fail
  refine (pick_any B _ 7 _ h3 (by omega) (by omega) (by omega)).mono ?_; rintro e w4 ⟨a, rfl, a0, a1, h4, hx4⟩
  have hx4 := hx3.trans hx4
  go_wp2_with fail
  refine (pick_any B _ 30 _ h4 (by omega) (by omega) (by omega)).mono ?_; rintro e w5 ⟨c, rfl, c0, c1, h5, hx5⟩
  have hx5 := hx4.trans hx5
  obtain ⟨y, hy⟩ : ∃ y, Int.tdiv c 29 = y := ⟨_, rfl⟩
  have hy9 : 0 ≤ y ∧ y ≤ 1 := by rw [← hy, Int.tdiv_eq_ediv_of_nonneg c0]; omega
  obtain ⟨y0, y1⟩ := hy9
  have hyy : c / 29 = y := by rw [← hy, Int.tdiv_eq_ediv_of_nonneg c0]
  go_wp2_with fail
  refine (pick_any B _ 30 _ h5 (by omega) (by omega) (by omega)).mono ?_; rintro e w6 ⟨d, rfl, d0, d1, h6, hx6⟩
  have hx6 := hx5.trans hx6
  obtain ⟨z, hz⟩ : ∃ z, Int.tdiv d 29 = z := ⟨_, rfl⟩
  have hz9 : 0 ≤ z ∧ z ≤ 1 := by rw [← hz, Int.tdiv_eq_ediv_of_nonneg d0]; omega
  obtain ⟨z0, z1⟩ := hz9
  have hzz : d / 29 = z := by rw [← hz, Int.tdiv_eq_ediv_of_nonneg d0]
  go_wp2_with fail
  have hz6 := hx6.size
  have hzQ := blk_lt hQ1
  refine (lights_any B _ 14 _ h6 (by omega) (by omega) (by omega)).mono ?_; rintro e w7 ⟨xs, A, cp, rfl, hxl, hO, h7, hx7⟩
  have hx7 := hx6.trans hx7
  have hO2 := (hO.far2K (b := w.heap.size) (by omega) (.bool s) (.int .i64 t)).far2K (b := w.heap.size + 1) (by omega) (.int .i64 lo) (.int .i64 hi)
  have hb6 := hB1.size
  have hP7 := blk_ext hP1 hx7 (by omega)
  have hQ7 := blk_ext hQ1 hx7 (by omega)
  have hB7 := hB1.trans (hx7.below (N := w.heap.size) (by omega) hB1.size)
  obtain ⟨p0, p1, s0, s1, zP⟩ := blk2 hP7
  obtain ⟨q0, q1, f0, f1, zQ⟩ := blk2 hQ7
  have hP8 := blk_store2 (C := w.heap.size + 1) (blk2_set (a := .bool s) (b := .int .i64 t) hP7) (by omega) (.int .i64 lo) (.int .i64 hi)
  have hQ8 := blk2_set (a := .int .i64 lo) (b := .int .i64 hi) (blk_store2 (C := w.heap.size) hQ7 (by omega) (.bool s) (.int .i64 t))
  obtain ⟨m0, m1, _, _, _⟩ := blk2 hP8
  obtain ⟨n0, n1, _, _, _⟩ := blk2 hQ8
  go_wp2_with fail
  exact bodyPost_ret (v := .tuple #[.agg #[.bool s, .int .i64 t], .agg #[.int .i64 lo, .int .i64 hi], .int .i64 (a + y * 21 - z * 20), .slice A xs.length cp]) (by simp [results, Try.results38, go_sem, m0, m1, n0, n1]) rfl ⟨s, t, lo, hi, a + y * 21 - z * 20, xs, A, cp, rfl, ht, hl, hh, ⟨by omega, by omega⟩, hxl, hO2.mono (by omega), store2_bel (store2_bel hB7 (Nat.le_refl _) _ _) (by omega) _ _⟩
end Go.Proofs.Ytpmbjdfecbmgoaa
