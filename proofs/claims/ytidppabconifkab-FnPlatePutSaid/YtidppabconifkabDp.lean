/- Marks and plates that are drawn. -/
import Derived.Test.YtidppabconifkabPp
import Derived.Test.YtidppabconifkabDw
import Derived.Test.YtidppabconifkabDr5
namespace Go.Proofs.Ytidppabconifkab
open Go Go.ChangeShapes Go.WideShapes Go.ChangeAt Go.RowKit
set_option linter.unusedSimpArgs false
set_option linter.unusedVariables false

theorem blk_text_at {w : World} {b : Nat} {t : TypeId} (zs : List ByteArray) (h : w.heap[b]? = some (.cells (zs.map Value.string).toArray t (0, 0))) (hi : Nat) (hz : ∀ z ∈ zs, z.size ≤ hi) (i : Nat) (hi' : i < zs.length) : ∃ v : ByteArray, w.cell? ⟨b, i, none⟩ = some (.string v) ∧ v.size ≤ hi ∧ v ∈ zs := by
  refine ⟨zs[i], ?_, hz _ (List.getElem_mem hi'), List.getElem_mem hi'⟩
  simp [World.cell?, h, hi']
theorem SOwn.ext {α : Type} {E : Enc α} {w w' : World} {base B : Nat} {T : TypeId} {A : Option Addr} {cap : Nat} {xs : List α} (h : SOwn E w base T A cap xs) (hx : Ext B w w') (hB : B < base) : SOwn E w' base T A cap xs := by
  refine h.grown_far (row := some B) ⟨hx.os, hx.tape, hx.output, hx.size, fun k hk hne => hx.block k hk (fun e => hne (by rw [e]))⟩ (fun g hg e => ?_)
  rcases h.form with ⟨e2, _⟩ | ⟨g2, e2, hb, _⟩
  · rw [e2] at hg; cases hg
  · rw [e2] at hg; cases hg; cases e; omega
def MarkIs (B : Nat) (u : Int) (w : World) (e : Ending) (w' : World) : Prop :=
  ∃ (a b : Int) (s : ByteArray), e = .returned (.agg #[.int .i64 a, .int .i64 b, .string s]) ∧ -1001 ≤ a ∧ a ≤ 1001 ∧ -1001 ≤ b ∧ b ≤ 1001 ∧ s.size ≤ 100 ∧ RdU B u w' ∧ Ext B w w'
set_option maxHeartbeats 4000000 in
theorem mark_any (B : Nat) (u : Int) (w : World) (h : RdU B u w) (hu : u ≤ 700000) : Calls Try.prog 51 #[.pointer (some ⟨B, 0, none⟩)] w (MarkIs B (u + 9) w) := by
  have hBw := h.lt
  go_enter Try.func51, Try.ntmps51
  go_wp2_with fail
  refine (way_any B u 30 _ (h.alloc _) (by omega) (by omega) (by omega)).mono ?_; rintro e w2 ⟨a, b, rfl, a0, a1, b0, b1, h2, hx2⟩
  have hH2 := blk_ext (blk_new w (.cells #[.int .i64 0, .int .i64 0, .string ByteArray.empty] 40)) hx2 (by omega)
  have hz2 := blk_lt hH2
  have hBlt2 := h2.lt
  go_wp2_with fail
  refine (pick_any B _ 12 _ (h2.alloc _) (by omega) (by omega) (by omega)).mono ?_; rintro e w3 ⟨j, rfl, j0, j1, h3, hx3⟩
  have hT := blk_ext (blk_new _ _) hx3 (by omega)
  obtain ⟨v, hv, v0, _⟩ := blk_text_at [⟨#[120, 105, 105]⟩, ⟨#[118, 105]⟩, ⟨#[57]⟩, ⟨#[49, 48, 58, 51, 48]⟩, ⟨#[105, 120]⟩, ⟨#[110, 111, 111, 110]⟩, ⟨#[97]⟩, ⟨#[98]⟩, ⟨#[99]⟩, ⟨#[100]⟩, ⟨#[51]⟩, ⟨#[49, 53, 58, 48, 48]⟩] hT 100 (by decide) j.toNat (by simp; omega)
  have hH3 := blk_ext (blk_old hH2 _) hx3 (by omega)
  clear hT
  obtain ⟨c0, c1, c2, f0, f1, f2, hz3⟩ := blk3 hH3
  have hH9 := blk3_put (a := .int .i64 a) (b := .int .i64 b) (c := .string v) hH3
  obtain ⟨q0, q1, q2, _, _, _, _⟩ := blk3 hH9
  go_wp2
  refine bodyPost_ret (v := .agg #[.int .i64 a, .int .i64 b, .string v]) (by simp [results, Try.results51, go_sem, q0, q1, q2]) rfl ⟨a, b, v, rfl, a0, a1, b0, b1, v0, ?_, ?_⟩
  · exact (((h3.mono (u' := u + 9) (by omega)).setOther (by omega) _).setOther (by omega) _).setOther (by omega) _
  · exact (((((Ext.refl B w).alloc _).trans hx2).alloc _ |>.trans hx3).setNew (Nat.le_refl _) 0 _ |>.setNew (Nat.le_refl _) 1 _ |>.setNew (Nat.le_refl _) 2 _)
def plSm (xs : List VMark) : Prop := ∀ v ∈ xs, (-1001 ≤ v.1 ∧ v.1 ≤ 1001) ∧ (-1001 ≤ v.2.1 ∧ v.2.1 ≤ 1001) ∧ v.2.2.size ≤ 100
theorem plSm.q {xs : List VMark} (h : plSm xs) : ∀ v ∈ xs, v.2.2.size ≤ maxLen := fun v hv => by have := (h v hv).2.2; unfold maxLen; omega
theorem plB_nil : plB [] = true := plB_iff.2 ⟨fun i hi => by simp at hi, by simp⟩
def PlateIs (B : Nat) (u : Int) (w : World) (e : Ending) (w' : World) : Prop :=
  ∃ (xs : List VMark) (g cp : Nat), e = .returned (.slice (some ⟨g, 0, none⟩) xs.length cp) ∧ xs.length ≤ 25 ∧ plSm xs ∧ SOwn encMark w' w.heap.size 40 (some ⟨g, 0, none⟩) cp xs ∧ RdU B u w' ∧ Ext B w w'
theorem sm_snoc {xs : List VMark} {v : VMark} (h : plSm xs) (h1 : -1001 ≤ v.1 ∧ v.1 ≤ 1001) (h2 : -1001 ≤ v.2.1 ∧ v.2.1 ≤ 1001) (h3 : v.2.2.size ≤ 100) : plSm (xs ++ [v]) := by
  intro u hu
  rcases List.mem_append.1 hu with hu | hu
  · exact h u hu
  · simp at hu; subst hu; exact ⟨h1, h2, h3⟩
theorem RdU.far {B : Nat} {u : Int} {w w' : World} {row : Option Nat} (h : RdU B u w) (hg : w.grownBy w' row) (hne : ∀ k, row = some k → B < k) : RdU B u w' := by
  obtain ⟨sl, p, h1, h2, h3, h4⟩ := h
  have hb := hg.block B (blk_lt h1) (fun e => by have := hne B e.symm; omega)
  refine ⟨sl, p, by rw [hb]; exact h1, h2, h3, ?_⟩
  rcases h4 with h4 | ⟨b, off, len, cap, e, k1, k2, k3, k4⟩
  · exact .inl h4
  · refine .inr ⟨b, off, len, cap, e, k1, k2, k3, ?_⟩
    intro i hi
    obtain ⟨v, q1, q2⟩ := k4 i hi
    have hb2 := hg.block b (World.block_lt_of_cell? w _ q1) (fun e => by have := hne b e.symm; omega)
    refine ⟨v, ?_, q2⟩
    simp only [World.cell?] at q1 ⊢
    rw [hb2]; exact q1
theorem SOwn.ge_base {α : Type} {E : Enc α} {w : World} {base : Nat} {T : TypeId} {A : Option Addr} {cap n : Nat} {xs : List α} (h : SOwn E w base T A cap xs) : ∀ k, Value.ownBlock (.slice A n cap) = some k → base ≤ k := by
  intro k hk
  rcases h.form with ⟨rfl, _⟩ | ⟨g, rfl, hb, _⟩
  · simp [Value.ownBlock] at hk
  · simp [Value.ownBlock] at hk; omega
theorem Ext.far_grown {B : Nat} {a w w' : World} {row : Option Nat} (h : Ext B a w) (hg : w.grownBy w' row) (hr : ∀ k, row = some k → a.heap.size ≤ k) : Ext B a w' :=
  ⟨hg.os.trans h.os, hg.tape.trans h.tape, hg.output.trans h.output, Nat.le_trans h.size hg.size, fun k hk hne => (hg.block k (Nat.lt_of_lt_of_le hk h.size) (fun e => by have := hr k e.symm; omega)).trans (h.block k hk hne)⟩
set_option maxRecDepth 100000 in
set_option maxHeartbeats 8000000 in
theorem plate_any (B : Nat) (u n : Int) (w : World) (h : RdU B u w) (hu : u ≤ 600000) (hn : 0 ≤ n) (hn1 : n ≤ 1000000) : Calls Try.prog 50 #[.pointer (some ⟨B, 0, none⟩), .int .i64 n] w (PlateIs B (u + 80) w) := by
  have hBw := h.lt
  obtain ⟨i0, hi0, hz0, hz1, hz2⟩ := info_parts infoMark
  have HI := Lib.hid (And.intro hi0 (And.intro hz0 (And.intro hz1 hz2)))
  clear hi0 hz0 hz1 hz2
  go_enter Try.func50, Try.ntmps50
  go_wp2_with fail
  refine (pick_any B u 9 _ (h.alloc _) (by omega) (by omega) (by omega)).mono ?_; rintro e w1 ⟨k0, rfl, k00, k01, h1, hx1⟩
  have hO1 := (SOwn.empty (E := encMark) (blk_new w (.cells #[] 40)) (Nat.le_refl _)).ext hx1 hBw
  have hE1 := ((Ext.refl B w).alloc (.cells #[] 40)).trans hx1
  go_wp2_with fail
  go_loopw [5, 6] (fun vo vk wr => ∃ (k : Int) (xs : List VMark) (g cp m : Nat), vk = .int .i64 k ∧ vo = .slice (some ⟨g, 0, none⟩) m cp ∧ 0 ≤ k ∧ k ≤ 8 ∧ m ≤ 24 ∧ Hid (xs.length = m) ∧ Hid (plB xs = true) ∧ Hid (plSm xs) ∧ SOwn encMark wr w.heap.size 40 (some ⟨g, 0, none⟩) cp xs ∧ RdU B (u + 1 + 9 * (8 - k)) wr ∧ Ext B w wr) (fun _ vk _ => (intOf vk).toNat)
  case atStart => exact ⟨k0, [], _, 0, 0, rfl, rfl, k00, by omega, by omega, (by show _ = _; rfl), plB_nil, (by show plSm []; intro v hv; simp at hv), hO1, h1.mono (by omega), hE1⟩
  case round =>
    obtain ⟨k, xs, g, cp, m, rfl, rfl, k0', k8, hm24, HM, HP, HS, hO, hR, hX⟩ := hrel
    by_cases hk : 0 < k
    · go_wp2_with fail
      refine (mark_any B _ _ hR (by omega)).mono ?_; rintro e w2 ⟨a, b, s, rfl, a0, a1, b0, b1, hs, h2, hx2⟩
      have hO2 := hO.ext hx2 hBw
      have hX2 := hX.trans hx2
      go_wp2_with fail
      refine (sPP_any (some ⟨g, 0, none⟩) cp xs a b s _ HM.out ⟨g, 0, rfl⟩ hO2.row HS.out.q (by unfold maxLen; omega) (by omega)).mono ?_; rintro e w3 ⟨l, ok, A3, cp3, rfl, hPp, hO3, hw3⟩
      have hR3 := h2.next hw3
      have hX3 := hX2.of_below hw3
      have hO23 := hO2.next hw3
      have hz3 := hX2.size
      rcases hPp with ⟨e1, _, _⟩ | ⟨_, hpl, hl, rfl⟩ | ⟨_, _, rfl, rfl⟩
      · exfalso; have := HP.out; rw [e1] at this; cases this
      · have hl24 : l.length ≤ 24 := by rw [hl]; exact (plB_iff.1 hpl).2
        have HPl : Hid (plB l = true) := by show _ = _; rw [hl]; exact hpl
        have HSl : Hid (plSm l) := by
          show plSm l
          rw [hl]
          intro v hv
          rcases putL_mem hv with h1 | h1
          · exact HS.out v h1
          · rw [h1]; exact ⟨⟨a0, a1⟩, ⟨b0, b1⟩, hs⟩
        have hne : l ≠ [] := by
          rw [hl]; unfold putL
          have hstep : ∀ (ys : List VMark) (o : List VMark × Bool), o.1 ≠ [] ∨ o.2 = false → ((ys.foldl (putStep (a, b, s)) o).2 = true → (ys.foldl (putStep (a, b, s)) o).1 ≠ []) := by
            intro ys
            induction ys with
            | nil => intro o ho h; simp at h ⊢; rcases ho with ho | ho; exact ho; rw [ho] at h; cases h
            | cons y ys ih => intro o ho; rw [List.foldl_cons]; apply ih; left; unfold putStep; split <;> simp
          split
          · rename_i h; exact hstep xs ([], false) (.inr rfl) h
          · simp
        obtain ⟨g3, rfl⟩ : ∃ g3, A3 = some ⟨g3, 0, none⟩ := by
          rcases hO3.form with ⟨_, e, _⟩ | ⟨g3, e, _, _⟩
          · exact absurd e hne
          · exact ⟨g3, e⟩
        obtain ⟨ml, hml⟩ : ∃ ml, l.length = ml := ⟨_, rfl⟩
        rw [hml] at hl24
        have HMl := Lib.hid hml
        rw [HMl.out]
        clear hml hl hne hpl
        go_wp2_with fail
        go_roundw
        case rel => exact ⟨k - 1, l, g3, cp3, ml, rfl, rfl, by omega, by omega, hl24, HMl, HPl, HSl, hO3.mono hz3, hR3.mono (by omega), hX3⟩
        case measure => simp [intOf]; omega
      · rw [HM.out]
        go_wp2_with fail
        go_roundw
        case rel => exact ⟨k - 1, l, g, cp, m, rfl, rfl, by omega, by omega, hm24, HM, HP, HS, hO23, hR3.mono (by omega), hX3⟩
        case measure => simp [intOf]; omega
    · go_wp2_with fail
      refine (odd0_any B _ n _ hR (by omega) hn hn1).mono ?_; rintro e w2 ⟨q, rfl, h2, hx2⟩
      have hO2 := hO.ext hx2 hBw
      have hX2 := hX.trans hx2
      cases q
      · go_wp2_with fail
        go_ret
        exact ⟨xs, g, cp, by rw [HM.out]; rfl, by rw [HM.out]; omega, HS.out, hO2, h2.mono (by omega), hX2⟩
      · go_wp2_with fail
        refine (pick_any B _ 3 _ h2 (by omega) (by omega) (by omega)).mono ?_; rintro e w4 ⟨j, rfl, j0, j1, h4, hx4'⟩
        have hO4 := hO2.ext hx4' hBw
        have hx4 := hX2.trans hx4'
        have h4 := h4.mono (u' := u + 80) (by omega)
        have hz4 := hx4.size
        by_cases e0 : j = 0
        · subst e0
          go_wp2_with (at_builtin; refine wpList_append_lies _ rfl (.tmp 37) (.tmp 40) _ rfl w.heap.size 40 i0 _ 3 32 Try.underlying37 HI.out.1 HI.out.2.1 HI.out.2.2.1 HI.out.2.2.2 rfl (by omega) (.slice (some ⟨g, 0, none⟩) m cp) m (encMark.flat xs) rfl (by have q := hO4.alloc (.cells (encMark.enc ((1, 0, ⟨#[88]⟩) : VMark)).toArray 40); unfold SOwn at q; rw [HM.out] at q; exact q) ⟨w4.heap.size, 0, none⟩ 1 1 (encMark.enc ((1, 0, ⟨#[88]⟩) : VMark)) rfl rfl (new_enc (E := encMark) w4 ((1, 0, ⟨#[88]⟩) : VMark) _) (encMark.one _) (by omega) (by simp only [maxLen]; omega) (by omega) (by simp; omega) _ rfl ?_; intro g5 cap5 w5 hown5 hgr5 hat5 hlt5)
          go_ret
          have hne : ∀ k, Value.ownBlock (.slice (some ⟨g, 0, none⟩) m cp) = some k → B < k := fun k hk => by have := SOwn.ge_base (hO4.alloc (.cells (encMark.enc ((1, 0, ⟨#[88]⟩) : VMark)).toArray 40)) k hk; omega
          have hB5 : RdU B (u + 80) w5 := (h4.alloc (.cells (encMark.enc ((1, 0, ⟨#[88]⟩) : VMark)).toArray 40)).far hgr5 hne
          exact ⟨xs ++ [((1, 0, ⟨#[88]⟩) : VMark)], g5, cap5, by rw [List.length_append, HM.out]; rfl, by rw [List.length_append, HM.out]; simp; omega, sm_snoc HS.out (by simp) (by simp) (by decide), SOwn.snoc (E := encMark) (by rw [HM.out]; exact hown5), hB5, (hx4.alloc (.cells (encMark.enc ((1, 0, ⟨#[88]⟩) : VMark)).toArray 40)).far_grown hgr5 (SOwn.ge_base (hO4.alloc (.cells (encMark.enc ((1, 0, ⟨#[88]⟩) : VMark)).toArray 40)))⟩
        · by_cases e1 : j = 1
          · subst e1
            go_wp2_with (at_builtin; refine wpList_append_lies _ rfl (.tmp 44) (.tmp 46) _ rfl w.heap.size 40 i0 _ 3 32 Try.underlying37 HI.out.1 HI.out.2.1 HI.out.2.2.1 HI.out.2.2.2 rfl (by omega) (.slice (some ⟨g, 0, none⟩) m cp) m (encMark.flat xs) rfl (by have q := hO4.alloc (.cells (encMark.enc ((0, 0, ⟨#[122]⟩) : VMark)).toArray 40); unfold SOwn at q; rw [HM.out] at q; exact q) ⟨w4.heap.size, 0, none⟩ 1 1 (encMark.enc ((0, 0, ⟨#[122]⟩) : VMark)) rfl rfl (new_enc (E := encMark) w4 ((0, 0, ⟨#[122]⟩) : VMark) _) (encMark.one _) (by omega) (by simp only [maxLen]; omega) (by omega) (by simp; omega) _ rfl ?_; intro g5 cap5 w5 hown5 hgr5 hat5 hlt5)
            go_ret
            have hne : ∀ k, Value.ownBlock (.slice (some ⟨g, 0, none⟩) m cp) = some k → B < k := fun k hk => by have := SOwn.ge_base (hO4.alloc (.cells (encMark.enc ((0, 0, ⟨#[122]⟩) : VMark)).toArray 40)) k hk; omega
            have hB5 : RdU B (u + 80) w5 := (h4.alloc (.cells (encMark.enc ((0, 0, ⟨#[122]⟩) : VMark)).toArray 40)).far hgr5 hne
            exact ⟨xs ++ [((0, 0, ⟨#[122]⟩) : VMark)], g5, cap5, by rw [List.length_append, HM.out]; rfl, by rw [List.length_append, HM.out]; simp; omega, sm_snoc HS.out (by simp) (by simp) (by decide), SOwn.snoc (E := encMark) (by rw [HM.out]; exact hown5), hB5, (hx4.alloc (.cells (encMark.enc ((0, 0, ⟨#[122]⟩) : VMark)).toArray 40)).far_grown hgr5 (SOwn.ge_base (hO4.alloc (.cells (encMark.enc ((0, 0, ⟨#[122]⟩) : VMark)).toArray 40)))⟩
          · have d0 : (j == 0) = false := by rw [beq_eq_false_iff_ne]; exact e0
            have d1 : (j == 1) = false := by rw [beq_eq_false_iff_ne]; exact e1
            clear e0 e1
            go_wp2_with fail
            go_ret
            have hbl : SBlk encMark (w4.alloc (.cells (encMark.flat [(0, 1, ⟨#[97]⟩), (1, 0, ⟨#[98]⟩)]).toArray 40)) w4.heap.size 40 [(0, 1, ⟨#[97]⟩), (1, 0, ⟨#[98]⟩)] := blk_new w4 _
            exact ⟨[(0, 1, ⟨#[97]⟩), (1, 0, ⟨#[98]⟩)], w4.heap.size, 2, rfl, by simp, (by intro v hv; simp at hv; rcases hv with rfl | rfl <;> exact ⟨by simp, by simp, by decide⟩), SOwn.of_blk hbl hz4 rfl (by unfold maxLen; omega), h4.alloc _, hx4.alloc _⟩
end Go.Proofs.Ytidppabconifkab
