/- What the laws of chapter 9 draw: beds, plants, water. -/
import Derived.Test.YtoeblgfaemhbjaaQd
namespace Go.Proofs.Ytoeblgfaemhbjaa
open Go Go.ChangeShapes Go.WideShapes Go.ChangeAt Go.RowKit
set_option linter.unusedSimpArgs false
set_option linter.unusedVariables false

theorem quo39w {n : Int} (h0 : 0 ≤ n) (h1 : n ≤ 39) : 0 ≤ n.tdiv 39 ∧ n.tdiv 39 ≤ 1 := by rw [Int.tdiv_eq_ediv_of_nonneg h0]; omega
def FullIs (B : Nat) (u : Int) (w : World) (e : Ending) (w' : World) : Prop := ∃ wet full : Int, e = .returned (.tuple #[.int .i64 wet, .int .i64 full]) ∧ (-200 ≤ wet ∧ wet ≤ 200) ∧ (-200 ≤ full ∧ full ≤ 200) ∧ RdU B u w' ∧ Ext B w w'
set_option maxHeartbeats 8000000 in
theorem full_any (B : Nat) (u : Int) (w : World) (h : RdU B u w) (hu : u ≤ 500000) : Calls Try.prog 53 #[.pointer (some ⟨B, 0, none⟩)] w (FullIs B (u + 6) w) := by
  have hBw := h.lt
  go_enter Try.func53, Try.ntmps53
  go_wp2_with fail
  refine (pick_any B _ 51 _ h (by omega) (by omega) (by omega)).mono ?_; rintro e w1 ⟨a, rfl, a0, a1, h1, hx1⟩
  have hX1 := hx1
  go_wp2_with fail
  refine (pick_any B _ 40 _ h1 (by omega) (by omega) (by omega)).mono ?_; rintro e w2 ⟨c, rfl, c0, c1, h2, hx2⟩
  have hX2 := hX1.trans hx2
  obtain ⟨qc0, qc1⟩ := quo39w c0 (by omega)
  obtain ⟨qc, hqc⟩ : ∃ q, Int.tdiv c 39 = q := ⟨_, rfl⟩
  rw [hqc] at qc0 qc1
  have hqqc : c / 39 = qc := by rw [← hqc, Int.tdiv_eq_ediv_of_nonneg c0]
  go_wp2_with fail
  refine (pick_any B _ 40 _ h2 (by omega) (by omega) (by omega)).mono ?_; rintro e w3 ⟨d, rfl, d0, d1, h3, hx3⟩
  have hX3 := hX2.trans hx3
  obtain ⟨qd0, qd1⟩ := quo39w d0 (by omega)
  obtain ⟨qd, hqd⟩ : ∃ q, Int.tdiv d 39 = q := ⟨_, rfl⟩
  rw [hqd] at qd0 qd1
  have hqqd : d / 39 = qd := by rw [← hqd, Int.tdiv_eq_ediv_of_nonneg d0]
  go_wp2_with fail
  refine (pick_any B _ 35 _ h3 (by omega) (by omega) (by omega)).mono ?_; rintro e w4 ⟨f, rfl, f0, f1, h4, hx4⟩
  have hX4 := hX3.trans hx4
  go_wp2_with fail
  refine (pick_any B _ 40 _ h4 (by omega) (by omega) (by omega)).mono ?_; rintro e w5 ⟨g, rfl, g0, g1, h5, hx5⟩
  have hX5 := hX4.trans hx5
  obtain ⟨qg0, qg1⟩ := quo39w g0 (by omega)
  obtain ⟨qg, hqg⟩ : ∃ q, Int.tdiv g 39 = q := ⟨_, rfl⟩
  rw [hqg] at qg0 qg1
  have hqqg : g / 39 = qg := by rw [← hqg, Int.tdiv_eq_ediv_of_nonneg g0]
  go_wp2
  go_ret2
  exact ⟨a + qc * 51 - qd * 60, 16 + f - qg * 40, rfl, ⟨by omega, by omega⟩, ⟨by omega, by omega⟩, h5.mono (by omega), hX5⟩
def DrewBeds (w : World) (e : Ending) (w' : World) : Prop := ∃ (xs : List Int) (A : Option Addr) (cap : Nat), e = .returned (.slice A xs.length cap) ∧ xs.length ≤ 7 ∧ SOwn encNum w' w.heap.size 3 A cap xs ∧ Below w.heap.size w w'
def DrewPlants (w : World) (e : Ending) (w' : World) : Prop := ∃ (xs : List VPlant) (A : Option Addr) (cap : Nat), e = .returned (.slice A xs.length cap) ∧ xs.length ≤ 7 ∧ SOwn encPlant w' w.heap.size 32 A cap xs ∧ Below w.heap.size w w'
def DrewWater (w : World) (e : Ending) (w' : World) : Prop := ∃ (wet full : Int) (xs : List Int) (A : Option Addr) (cap : Nat), e = .returned (.tuple #[.int .i64 wet, .int .i64 full, .slice A xs.length cap]) ∧ (-200 ≤ wet ∧ wet ≤ 200) ∧ (-200 ≤ full ∧ full ≤ 200) ∧ xs.length ≤ 14 ∧ SOwn encNum w' w.heap.size 3 A cap xs ∧ Below w.heap.size w w'
def DrewDays (w : World) (e : Ending) (w' : World) : Prop := ∃ (wet full : Int) (xs : List Int) (ds : List Bool) (A C : Option Addr) (ca cc : Nat), e = .returned (.tuple #[.int .i64 wet, .int .i64 full, .slice A xs.length ca, .slice C ds.length cc]) ∧ (-200 ≤ wet ∧ wet ≤ 200) ∧ (-200 ≤ full ∧ full ≤ 200) ∧ xs.length ≤ 14 ∧ ds.length ≤ 15 ∧ SOwn encNum w' w.heap.size 3 A ca xs ∧ SOwn encBool w' w.heap.size 4 C cc ds ∧ Below w.heap.size w w'
set_option maxRecDepth 100000 in
set_option maxHeartbeats 4000000 in
theorem drBedsValid_any (a : Option Addr) (len cap : Nat) (w : World) (h : CodeOk w a len cap) : Calls Try.prog 12 #[.slice a len cap] w (DrewBeds w) := by
  go_enter Try.func12, Try.ntmps12
  go_wp2_with fail
  refine (open_any _ _ _ _ h).mono ?_; rintro e w1 ⟨B, rfl, hB, h1, hb1⟩
  go_wp2_with fail
  refine (beds_any B 0 2 _ h1 (by omega) (by omega) (by omega)).mono ?_; rintro e w2 ⟨xs, A, cp, rfl, hx6, hO, _, hx⟩
  have hB2 := hb1.trans (hx.below (N := w.heap.size) (by omega) hb1.size)
  have hO2 := hO.mono hb1.size
  go_wp2_with fail
  go_ret
  exact ⟨xs, A, cp, rfl, hx6, hO2, hB2⟩
set_option maxRecDepth 100000 in
set_option maxHeartbeats 4000000 in
theorem drPlantsValid_any (a : Option Addr) (len cap : Nat) (w : World) (h : CodeOk w a len cap) : Calls Try.prog 16 #[.slice a len cap] w (DrewPlants w) := by
  go_enter Try.func16, Try.ntmps16
  go_wp2_with fail
  refine (open_any _ _ _ _ h).mono ?_; rintro e w1 ⟨B, rfl, hB, h1, hb1⟩
  go_wp2_with fail
  refine (plants_any B 0 2 _ h1 (by omega) (by omega) (by omega)).mono ?_; rintro e w2 ⟨xs, A, cp, rfl, hx6, hO, _, hx⟩
  have hB2 := hb1.trans (hx.below (N := w.heap.size) (by omega) hb1.size)
  have hO2 := hO.mono hb1.size
  go_wp2_with fail
  go_ret
  exact ⟨xs, A, cp, rfl, hx6, hO2, hB2⟩
set_option maxRecDepth 100000 in
set_option maxHeartbeats 4000000 in
theorem drWaterRun_any (a : Option Addr) (len cap : Nat) (w : World) (h : CodeOk w a len cap) : Calls Try.prog 22 #[.slice a len cap] w (DrewWater w) := by
  go_enter Try.func22, Try.ntmps22
  go_wp2_with fail
  refine (open_any _ _ _ _ h).mono ?_; rintro e w1 ⟨B, rfl, hB, h1, hb1⟩
  go_wp2_with fail
  refine (full_any B 0 _ h1 (by omega)).mono ?_; rintro e w2 ⟨wet, full, rfl, hw, hf, h2, hx2⟩
  go_wp2_with fail
  refine (takes_any B _ 12 _ h2 (by omega) (by omega) (by omega)).mono ?_; rintro e w3 ⟨xs, A, cp, rfl, hx6, hO, _, hx3⟩
  have hx := hx2.trans hx3
  have hz2 := hx2.size
  have hB2 := hb1.trans (hx.below (N := w.heap.size) (by omega) hb1.size)
  have hzb := hb1.size
  have hO2 := hO.mono (base' := w.heap.size) (by omega)
  go_wp2_with fail
  go_ret3
  exact ⟨wet, full, xs, A, cp, rfl, hw, hf, hx6, hO2, hB2⟩
set_option maxRecDepth 100000 in
set_option maxHeartbeats 4000000 in
theorem drWaterOk_any (a : Option Addr) (len cap : Nat) (w : World) (h : CodeOk w a len cap) : Calls Try.prog 26 #[.slice a len cap] w (DrewDays w) := by
  obtain ⟨i0, hi0, hz0, hz1, hz2⟩ := info_parts infoBool
  have HI := Lib.hid (And.intro hi0 (And.intro hz0 (And.intro hz1 hz2)))
  clear hi0 hz0 hz1 hz2
  go_enter Try.func26, Try.ntmps26
  go_wp2_with fail
  refine (open_any _ _ _ _ h).mono ?_; rintro e w1 ⟨B, rfl, hB, h1, hb1⟩
  go_wp2_with fail
  refine (full_any B 0 _ h1 (by omega)).mono ?_; rintro e w2 ⟨wet, full, rfl, hw, hf, h2, hx2⟩
  go_wp2_with fail
  refine (takes_any B _ 14 _ h2 (by omega) (by omega) (by omega)).mono ?_; rintro e w3 ⟨xs, A, ca, rfl, hx6, hT, h3, hx3⟩
  obtain ⟨m, hm⟩ : ∃ m, xs.length = m := ⟨_, rfl⟩
  rw [hm] at hx6 ⊢
  have HM := Lib.hid hm
  clear hm
  have hX3 := hx2.trans hx3
  have hB3l := h3.lt
  have hz3 := hX3.size
  have hb1z := hb1.size
  have HAL : Hid (∀ g, A = some ⟨g, 0, none⟩ → g < w3.heap.size) := Lib.hid (fun g hg => by rcases hT.form with ⟨e, _⟩ | ⟨g1, e, _, h9⟩; rw [e] at hg; cases hg; rw [e] at hg; cases hg; exact h9)
  have hT0 := hT
  have hB2l := h2.lt
  clear hT
  go_wp2_with fail
  go_loopw [10, 11] (fun vo vk wr => ∃ (k g cq q : Nat) (ds : List Bool), vk = .int .i64 k ∧ vo = .slice (some ⟨g, 0, none⟩) q cq ∧ k ≤ m ∧ q = k ∧ w3.heap.size ≤ g ∧ Hid (ds.length = q) ∧ SOwn encBool wr w3.heap.size 4 (some ⟨g, 0, none⟩) cq ds ∧ SOwn encNum wr w2.heap.size 3 A ca xs ∧ RdU B (600 + k) wr ∧ Ext B w3 wr) (fun _ vk _ => (m - intOf vk).toNat)
  case atStart => exact ⟨0, _, 0, 0, [], rfl, rfl, by omega, rfl, Nat.le_refl _, (by show _ = _; rfl), SOwn.empty (blk_new w3 _) (Nat.le_refl _), hT0.alloc _, (h3.alloc _).mono (by omega), (Ext.refl B w3).alloc _⟩
  case round =>
    clear hT0
    obtain ⟨k, g, cq, q, ds, rfl, rfl, k1, qk, hg0, HQ, hO, hT, hR, hX⟩ := hrel
    have QK := Lib.hid qk
    have hq14 : q ≤ 14 := by omega
    clear qk
    by_cases hlt : k < m
    · have hki : (k : Int) < (m : Int) := by omega
      go_wp2_with fail
      refine (pick_any B _ 5 _ hR (by omega) (by omega) (by omega)).mono ?_; rintro e w4 ⟨c, rfl, c0, c1, h4, hx4⟩
      have hO4 := hO.extK hx4 hB3l
      have hT4 := hT.extK hx4 hB2l
      have hX4 := hX.trans hx4
      have hz4 := hX4.size
      by_cases hc : c < 3
      · have hcb : decide (c < 3) = true := decide_eq_true hc
        go_wp2_with (at_builtin; refine wpList_append_lies _ rfl (.tmp 28) (.tmp 32) _ rfl w3.heap.size 4 i0 _ 1 1 Try.underlying41 HI.out.1 HI.out.2.1 HI.out.2.2.1 HI.out.2.2.2 rfl (by omega) (.slice (some ⟨g, 0, none⟩) q cq) q (encBool.flat ds) rfl (by have q := hO4.alloc (.cells (encBool.enc (true)).toArray 4); unfold SOwn at q; rw [HQ.out] at q; exact q) ⟨w4.heap.size, 0, none⟩ 1 1 (encBool.enc (true)) rfl rfl (new_enc (E := encBool) w4 (true) _) (encBool.one _) (by omega) (by simp only [maxLen]; omega) (by omega) (by simp; omega) _ rfl ?_; intro g5 cap5 w7 hown5 hgr5 hat5 hlt5)
        have hne : ∀ k, Value.ownBlock (.slice (some ⟨g, 0, none⟩) q cq) = some k → B < k := fun k hk => by have := SOwn.ge_baseK (hO4.alloc (.cells (encBool.enc (true)).toArray 4)) k hk; omega
        have hB5 := (h4.alloc (.cells (encBool.enc (true)).toArray 4)).farK hgr5 hne
        have hE5 := (hX4.alloc (.cells (encBool.enc (true)).toArray 4)).far_grownK hgr5 (SOwn.ge_baseK (hO4.alloc (.cells (encBool.enc (true)).toArray 4)))
        have hsn := SOwn.snoc (E := encBool) (xs := ds) (x := true) (by rw [HQ.out]; exact hown5)
        have hg5 : w3.heap.size ≤ g5 := by rcases hsn.form with ⟨e, _⟩ | ⟨g1, e, h9, _⟩; cases e; cases e; exact h9
        have hT5 := (hT4.alloc (.cells (encBool.enc (true)).toArray 4)).grown_far hgr5 (fun g1 hg1 e => by have h9 := HAL.out g1 hg1; simp [Value.ownBlock] at e; omega)
        go_wp2_with fail
        go_roundw
        case rel => exact ⟨k + 1, g5, cap5, q + 1, ds ++ [true], by go_num, rfl, by omega, by rw [QK.out], hg5, (by show _ = _; rw [List.length_append, HQ.out]; rfl), hsn, hT5, hB5.mono (by push_cast; omega), hE5⟩
        case measure => simp [intOf]; omega
      · have hcb : decide (c < 3) = false := decide_eq_false hc
        go_wp2_with (at_builtin; refine wpList_append_lies _ rfl (.tmp 28) (.tmp 32) _ rfl w3.heap.size 4 i0 _ 1 1 Try.underlying41 HI.out.1 HI.out.2.1 HI.out.2.2.1 HI.out.2.2.2 rfl (by omega) (.slice (some ⟨g, 0, none⟩) q cq) q (encBool.flat ds) rfl (by have q := hO4.alloc (.cells (encBool.enc (false)).toArray 4); unfold SOwn at q; rw [HQ.out] at q; exact q) ⟨w4.heap.size, 0, none⟩ 1 1 (encBool.enc (false)) rfl rfl (new_enc (E := encBool) w4 (false) _) (encBool.one _) (by omega) (by simp only [maxLen]; omega) (by omega) (by simp; omega) _ rfl ?_; intro g5 cap5 w7 hown5 hgr5 hat5 hlt5)
        have hne : ∀ k, Value.ownBlock (.slice (some ⟨g, 0, none⟩) q cq) = some k → B < k := fun k hk => by have := SOwn.ge_baseK (hO4.alloc (.cells (encBool.enc (false)).toArray 4)) k hk; omega
        have hB5 := (h4.alloc (.cells (encBool.enc (false)).toArray 4)).farK hgr5 hne
        have hE5 := (hX4.alloc (.cells (encBool.enc (false)).toArray 4)).far_grownK hgr5 (SOwn.ge_baseK (hO4.alloc (.cells (encBool.enc (false)).toArray 4)))
        have hsn := SOwn.snoc (E := encBool) (xs := ds) (x := false) (by rw [HQ.out]; exact hown5)
        have hg5 : w3.heap.size ≤ g5 := by rcases hsn.form with ⟨e, _⟩ | ⟨g1, e, h9, _⟩; cases e; cases e; exact h9
        have hT5 := (hT4.alloc (.cells (encBool.enc (false)).toArray 4)).grown_far hgr5 (fun g1 hg1 e => by have h9 := HAL.out g1 hg1; simp [Value.ownBlock] at e; omega)
        go_wp2_with fail
        go_roundw
        case rel => exact ⟨k + 1, g5, cap5, q + 1, ds ++ [false], by go_num, rfl, by omega, by rw [QK.out], hg5, (by show _ = _; rw [List.length_append, HQ.out]; rfl), hsn, hT5, hB5.mono (by push_cast; omega), hE5⟩
        case measure => simp [intOf]; omega
    · have hki : ¬ (k : Int) < (m : Int) := by omega
      go_wp2_with fail
      refine (odd0_any B _ 14 _ hR (by omega) (by omega) (by omega)).mono ?_; rintro e w4 ⟨b, rfl, h4, hx4⟩
      have hO4 := hO.extK hx4 hB3l
      have hT4 := hT.extK hx4 hB2l
      have hX4 := hX.trans hx4
      have hz4 := hX4.size
      have hz2w : w.heap.size ≤ w2.heap.size := by have := hx2.size; omega
      have hzz : w.heap.size ≤ w3.heap.size := by have := hx2.size; omega
      have hBf := hb1.trans ((hX3.trans hX4).below (N := w.heap.size) (by omega) hb1.size)
      cases b
      · go_wp2_with fail
        exact bodyPost_ret (v := .tuple #[.int .i64 wet, .int .i64 full, .slice A m ca, .slice (some ⟨g, 0, none⟩) q cq]) (by simp [results, Try.results26, go_sem]) rfl ⟨wet, full, xs, ds, A, _, ca, cq, by rw [HM.out, HQ.out], hw, hf, by rw [HM.out]; exact hx6, by rw [HQ.out]; omega, hT4.mono hz2w, hO4.mono hzz, hBf⟩
      · go_wp2_with (at_builtin; refine wpList_append_lies _ rfl (.tmp 36) (.tmp 37) _ rfl w3.heap.size 4 i0 _ 1 1 Try.underlying41 HI.out.1 HI.out.2.1 HI.out.2.2.1 HI.out.2.2.2 rfl (by omega) (.slice (some ⟨g, 0, none⟩) q cq) q (encBool.flat ds) rfl (by have q := hO4.alloc (.cells (encBool.enc (true)).toArray 4); unfold SOwn at q; rw [HQ.out] at q; exact q) ⟨w4.heap.size, 0, none⟩ 1 1 (encBool.enc (true)) rfl rfl (new_enc (E := encBool) w4 (true) _) (encBool.one _) (by omega) (by simp only [maxLen]; omega) (by omega) (by simp; omega) _ rfl ?_; intro g5 cap5 w7 hown5 hgr5 hat5 hlt5)
        have hne : ∀ k, Value.ownBlock (.slice (some ⟨g, 0, none⟩) q cq) = some k → B < k := fun k hk => by have := SOwn.ge_baseK (hO4.alloc (.cells (encBool.enc (true)).toArray 4)) k hk; omega
        have hB5 := (h4.alloc (.cells (encBool.enc (true)).toArray 4)).farK hgr5 hne
        have hE5 := (hX4.alloc (.cells (encBool.enc (true)).toArray 4)).far_grownK hgr5 (SOwn.ge_baseK (hO4.alloc (.cells (encBool.enc (true)).toArray 4)))
        have hsn := SOwn.snoc (E := encBool) (xs := ds) (x := true) (by rw [HQ.out]; exact hown5)
        have hg5 : w3.heap.size ≤ g5 := by rcases hsn.form with ⟨e, _⟩ | ⟨g1, e, h9, _⟩; cases e; cases e; exact h9
        have hT5 := (hT4.alloc (.cells (encBool.enc (true)).toArray 4)).grown_far hgr5 (fun g1 hg1 e => by have h9 := HAL.out g1 hg1; simp [Value.ownBlock] at e; omega)
        go_wp2_with fail
        have hBg := hb1.trans ((hX3.trans hE5).below (N := w.heap.size) (by omega) hb1.size)
        exact bodyPost_ret (v := .tuple #[.int .i64 wet, .int .i64 full, .slice A m ca, .slice (some ⟨g5, 0, none⟩) (q + 1) cap5]) (by simp [results, Try.results26, go_sem]) rfl ⟨wet, full, xs, ds ++ [true], A, _, ca, cap5, by rw [HM.out, List.length_append, HQ.out]; rfl, hw, hf, by rw [HM.out]; exact hx6, by rw [List.length_append, HQ.out]; simp; omega, hT5.mono hz2w, hsn.mono hzz, hBg⟩
end Go.Proofs.Ytoeblgfaemhbjaa
