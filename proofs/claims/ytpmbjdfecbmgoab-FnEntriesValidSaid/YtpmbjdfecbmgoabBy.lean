/- Plans that are drawn. -/
import Derived.Test.YtpmbjdfecbmgoabZd
import Derived.Test.YtpmbjdfecbmgoabGEntry
namespace Go.Proofs.Ytpmbjdfecbmgoab
open Go Go.ChangeShapes Go.WideShapes Go.ChangeAt Go.RowKit
set_option linter.unusedSimpArgs false
set_option linter.unusedVariables false

theorem text_atE {w : World} {b : Nat} {t : TypeId} (zs : List ByteArray) (h : w.heap[b]? = some (.cells (zs.map Value.string).toArray t (0, 0))) (hi : Nat) (hz : ∀ z ∈ zs, z.size ≤ hi) (i : Nat) (hi' : i < zs.length) : ∃ v : ByteArray, w.cell? ⟨b, i, none⟩ = some (.string v) ∧ v.size ≤ hi := by
  refine ⟨zs[i], ?_, hz _ (List.getElem_mem hi')⟩
  simp [World.cell?, h, hi']
def enSm (xs : List VEntry) : Prop := ∀ v ∈ xs, v.2.size ≤ 100
theorem enSm.add {xs ys : List VEntry} (h : enSm xs) (h2 : enSm ys) : enSm (xs ++ ys) := fun v hv => by rcases List.mem_append.1 hv with h9 | h9; exact h v h9; exact h2 v h9
theorem enSm_one {a : Int} {s : ByteArray} (h : s.size ≤ 100) : enSm [(a, s)] := fun v hv => by obtain rfl := List.mem_singleton.1 hv; exact h
def EntriesIs (B : Nat) (u : Int) (w : World) (e : Ending) (w' : World) : Prop :=
  ∃ (xs : List VEntry) (A : Option Addr) (cap : Nat), e = .returned (.slice A xs.length cap) ∧ xs.length ≤ 9 ∧ enSm xs ∧ SOwn encEntry w' w.heap.size 40 A cap xs ∧ RdU B u w' ∧ Ext B w w'
set_option maxRecDepth 100000 in
set_option maxHeartbeats 8000000 in
theorem entries_any (B : Nat) (u n : Int) (w : World) (h : RdU B u w) (hu : u ≤ 600000) (hn : 0 ≤ n) (hn1 : n ≤ 1000000) : Calls Try.prog 40 #[.pointer (some ⟨B, 0, none⟩), .int .i64 n] w (EntriesIs B (u + 20) w) := by
  have hBw := h.lt
  obtain ⟨i0, hi0, hz0, hz1, hz2⟩ := info_parts infoEntry
  have HI := Lib.hid (And.intro hi0 (And.intro hz0 (And.intro hz1 hz2)))
  clear hi0 hz0 hz1 hz2
  go_enter Try.func40, Try.ntmps40
  go_wp2_with fail
  refine (pick_any B _ 256 _ (h.alloc _) (by omega) (by omega) (by omega)).mono ?_; rintro e w0 ⟨p, rfl, p0, p1, h0, hx0⟩
  have hO0 := (SOwn.empty (E := encEntry) (blk_new w (.cells #[] 40)) (Nat.le_refl _)).extK hx0 hBw
  have hE0 := ((Ext.refl B w).alloc (.cells #[] 40)).trans hx0
  go_wp2_with fail
  refine (pick_any B _ 8 _ h0 (by omega) (by omega) (by omega)).mono ?_; rintro e w1 ⟨q, rfl, q0, q1, h1, hx1⟩
  have hO1 := hO0.extK hx1 hBw
  have hE1 := hE0.trans hx1
  go_wp2_with fail
  go_loopw [5, 6, 7] (fun vo va vk wr => ∃ (k t : Int) (xs : List VEntry) (g cp m : Nat), vk = .int .i64 k ∧ va = .int .i64 t ∧ vo = .slice (some ⟨g, 0, none⟩) m cp ∧ 0 ≤ k ∧ (m : Int) + k ≤ 7 ∧ (0 ≤ t ∧ t + 160 * k ≤ 1400) ∧ Hid (xs.length = m) ∧ Hid (enSm xs) ∧ SOwn encEntry wr w.heap.size 40 (some ⟨g, 0, none⟩) cp xs ∧ RdU B (u + 2 + 2 * (7 - k)) wr ∧ Ext B w wr) (fun _ _ vk _ => (intOf vk).toNat)
  case atStart => exact ⟨q, p, [], _, 0, 0, rfl, rfl, rfl, q0, by omega, ⟨p0, by omega⟩, (by show _ = _; rfl), Lib.hid (fun v hv => by simp at hv), hO1, h1.mono (by omega), hE1⟩
  case round =>
    obtain ⟨k, t, xs, g, cp, m, rfl, rfl, rfl, k0, mk, ⟨t0, t1⟩, HM, HS, hO, hR, hX⟩ := hrel
    by_cases hk : 0 < k
    · go_wp2_with fail
      refine (pick_any B _ 5 _ (hR.alloc _) (by omega) (by omega) (by omega)).mono ?_; rintro e w2 ⟨j, rfl, j0, j1, h2, hx2⟩
      have hT := blk_ext (blk_new _ _) hx2 (by have := hR.lt; omega)
      obtain ⟨v, hv, v0⟩ := text_atE [⟨#[115, 104, 117, 116]⟩, ⟨#[111, 112, 101, 110]⟩, ⟨#[104, 97, 108, 102]⟩, ⟨#[120]⟩, ⟨#[55, 58, 48, 48]⟩] hT 100 (by decide) j.toNat (by simp; omega)
      clear hT
      have hO2 := (hO.alloc _).extK hx2 hBw
      have hX2 := (hX.alloc _).trans hx2
      have hz2 := hX2.size
      go_wp2_with (at_builtin; refine wpList_append_lies _ rfl (.tmp 17) (.tmp 25) _ rfl w.heap.size 40 i0 _ 2 24 Try.underlying36 HI.out.1 HI.out.2.1 HI.out.2.2.1 HI.out.2.2.2 rfl (by omega) (.slice (some ⟨g, 0, none⟩) m cp) m (encEntry.flat xs) rfl (by have q := hO2.alloc (.cells (encEntry.enc (t, v)).toArray 40); unfold SOwn at q; rw [HM.out] at q; exact q) ⟨w2.heap.size, 0, none⟩ 1 1 (encEntry.enc (t, v)) rfl rfl (new_enc (E := encEntry) w2 (t, v) _) (encEntry.one _) (by omega) (by simp only [maxLen]; omega) (by omega) (by simp; omega) _ rfl ?_; intro g5 cap5 w7 hown5 hgr5 hat5 hlt5)
      have hne : ∀ k, Value.ownBlock (.slice (some ⟨g, 0, none⟩) m cp) = some k → B < k := fun k hk => by have := SOwn.ge_baseK (hO2.alloc (.cells (encEntry.enc (t, v)).toArray 40)) k hk; omega
      have hB5 := (h2.alloc (.cells (encEntry.enc (t, v)).toArray 40)).farK hgr5 hne
      have hE5 := (hX2.alloc (.cells (encEntry.enc (t, v)).toArray 40)).far_grownK hgr5 (SOwn.ge_baseK (hO2.alloc (.cells (encEntry.enc (t, v)).toArray 40)))
      have hs7 := SOwn.snoc (E := encEntry) (xs := xs) (x := (t, v)) (by rw [HM.out]; exact hown5)
      go_wp2_with fail
      refine (pick_any B _ 160 _ hB5 (by omega) (by omega) (by omega)).mono ?_; rintro e w8 ⟨d, rfl, d0, d1, h8, hx8⟩
      have hs8 := hs7.extK hx8 hBw
      have hE8 := hE5.trans hx8
      go_wp2_with fail
      go_roundw
      case rel => exact ⟨k - 1, t + 1 + d, xs ++ [(t, v)], g5, cap5, m + 1, by go_num, by go_num, rfl, by omega, by push_cast; omega, ⟨by omega, by omega⟩, (by show _ = _; rw [List.length_append, HM.out]; rfl), Lib.hid (HS.out.add (enSm_one v0)), hs8, h8.mono (by omega), hE8⟩
      case measure => simp [intOf]; omega
    · obtain rfl : k = 0 := by omega
      have hm5 : m ≤ 7 := by omega
      go_wp2_with fail
      refine (odd0_any B _ n _ hR (by omega) hn hn1).mono ?_; rintro e w3 ⟨b, rfl, h3, hx3⟩
      have hO3 := hO.extK hx3 hBw
      have hX3 := hX.trans hx3
      cases b
      · go_wp2_with fail
        go_ret
        exact ⟨xs, _, cp, (by rw [HM.out]; rfl), (by rw [HM.out]; omega), HS.out, hO3, h3.mono (by omega), hX3⟩
      · go_wp2_with fail
        refine (pick_any B _ 3 _ h3 (by omega) (by omega) (by omega)).mono ?_; rintro e w4 ⟨j, rfl, j0, j1, h4, hx4⟩
        have hO4 := hO3.extK hx4 hBw
        have hX4 := hX3.trans hx4
        by_cases c : j = 0
        · subst c
          have hz4 := hX4.size
          go_wp2_with (at_builtin; refine wpList_append_lies _ rfl (.tmp 43) (.tmp 45) _ rfl w.heap.size 40 i0 _ 2 24 Try.underlying36 HI.out.1 HI.out.2.1 HI.out.2.2.1 HI.out.2.2.2 rfl (by omega) (.slice (some ⟨g, 0, none⟩) m cp) m (encEntry.flat xs) rfl (by have q := hO4.alloc (.cells (encEntry.enc (1440, ⟨#[97]⟩)).toArray 40); unfold SOwn at q; rw [HM.out] at q; exact q) ⟨w4.heap.size, 0, none⟩ 1 1 (encEntry.enc (1440, ⟨#[97]⟩)) rfl rfl (new_enc (E := encEntry) w4 (1440, ⟨#[97]⟩) _) (encEntry.one _) (by omega) (by simp only [maxLen]; omega) (by omega) (by simp; omega) _ rfl ?_; intro g5 cap5 w7 hown5 hgr5 hat5 hlt5)
          have hne : ∀ k, Value.ownBlock (.slice (some ⟨g, 0, none⟩) m cp) = some k → B < k := fun k hk => by have := SOwn.ge_baseK (hO4.alloc (.cells (encEntry.enc (1440, ⟨#[97]⟩)).toArray 40)) k hk; omega
          have hB5 := (h4.alloc (.cells (encEntry.enc (1440, ⟨#[97]⟩)).toArray 40)).farK hgr5 hne
          have hE5 := (hX4.alloc (.cells (encEntry.enc (1440, ⟨#[97]⟩)).toArray 40)).far_grownK hgr5 (SOwn.ge_baseK (hO4.alloc (.cells (encEntry.enc (1440, ⟨#[97]⟩)).toArray 40)))
          go_wp2_with fail
          go_ret
          exact ⟨xs ++ [(1440, ⟨#[97]⟩)], some ⟨g5, 0, none⟩, cap5, (by rw [List.length_append, HM.out]; rfl), (by rw [List.length_append, HM.out]; simp; omega), HS.out.add (enSm_one (by decide)), SOwn.snoc (E := encEntry) (by rw [HM.out]; exact hown5), hB5.mono (by omega), hE5⟩
        · have e0 : (j == 0) = false := by rw [beq_eq_false_iff_ne]; omega
          by_cases c2 : j = 1
          · subst c2
            clear c e0
            have hz4 := hX4.size
            have newsE : ∀ j u, (encEntry.flat [(0, ⟨#[98]⟩), (0, ⟨#[98]⟩)])[j]? = some u → (w4.alloc (.cells #[.int .i64 0, .string ⟨#[98]⟩, .int .i64 0, .string ⟨#[98]⟩] 40)).cell? ((⟨w4.heap.size, 0, none⟩ : Addr).add j) = some u := World.news_of_block (cs := #[.int .i64 0, .string ⟨#[98]⟩, .int .i64 0, .string ⟨#[98]⟩]) (blk_new w4 (.cells #[.int .i64 0, .string ⟨#[98]⟩, .int .i64 0, .string ⟨#[98]⟩] 40))
            go_wp2_with (at_builtin; refine wpList_append_lies _ rfl (.tmp 49) (.tmp 52) _ rfl w.heap.size 40 i0 _ 2 24 Try.underlying36 HI.out.1 HI.out.2.1 HI.out.2.2.1 HI.out.2.2.2 rfl (by omega) (.slice (some ⟨g, 0, none⟩) m cp) m (encEntry.flat xs) rfl (by have q := hO4.alloc (.cells #[.int .i64 0, .string ⟨#[98]⟩, .int .i64 0, .string ⟨#[98]⟩] 40); unfold SOwn at q; rw [HM.out] at q; exact q) ⟨w4.heap.size, 0, none⟩ 2 2 (encEntry.flat [(0, ⟨#[98]⟩), (0, ⟨#[98]⟩)]) rfl rfl (newsE) (encEntry.flat_one _) (by omega) (by simp only [maxLen]; omega) (by omega) (by simp; omega) _ rfl ?_; intro g5 cap5 w7 hown5 hgr5 hat5 hlt5)
            have hne : ∀ k, Value.ownBlock (.slice (some ⟨g, 0, none⟩) m cp) = some k → B < k := fun k hk => by have := SOwn.ge_baseK (hO4.alloc (.cells #[.int .i64 0, .string ⟨#[98]⟩, .int .i64 0, .string ⟨#[98]⟩] 40)) k hk; omega
            have hB5 := (h4.alloc (.cells #[.int .i64 0, .string ⟨#[98]⟩, .int .i64 0, .string ⟨#[98]⟩] 40)).farK hgr5 hne
            have hE5 := (hX4.alloc (.cells #[.int .i64 0, .string ⟨#[98]⟩, .int .i64 0, .string ⟨#[98]⟩] 40)).far_grownK hgr5 (SOwn.ge_baseK (hO4.alloc (.cells #[.int .i64 0, .string ⟨#[98]⟩, .int .i64 0, .string ⟨#[98]⟩] 40)))
            go_wp2_with fail
            go_ret
            exact ⟨xs ++ [(0, ⟨#[98]⟩), (0, ⟨#[98]⟩)], some ⟨g5, 0, none⟩, cap5, (by rw [List.length_append, HM.out]; rfl), (by rw [List.length_append, HM.out]; simp; omega), HS.out.add ((enSm_one (by decide)).add (enSm_one (by decide))), SOwn.of_raw (E := encEntry) hown5 (encEntry.flat_app _ _) (by rw [List.length_append, HM.out]; rfl), hB5.mono (by omega), hE5⟩
          · have e1 : (j == 1) = false := by rw [beq_eq_false_iff_ne]; omega
            have hz4 := hX4.size
            go_wp2_with (at_builtin; refine wpList_append_lies _ rfl (.tmp 37) (.tmp 39) _ rfl w.heap.size 40 i0 _ 2 24 Try.underlying36 HI.out.1 HI.out.2.1 HI.out.2.2.1 HI.out.2.2.2 rfl (by omega) (.slice (some ⟨g, 0, none⟩) m cp) m (encEntry.flat xs) rfl (by have q := hO4.alloc (.cells (encEntry.enc (1439, ⟨#[65]⟩)).toArray 40); unfold SOwn at q; rw [HM.out] at q; exact q) ⟨w4.heap.size, 0, none⟩ 1 1 (encEntry.enc (1439, ⟨#[65]⟩)) rfl rfl (new_enc (E := encEntry) w4 (1439, ⟨#[65]⟩) _) (encEntry.one _) (by omega) (by simp only [maxLen]; omega) (by omega) (by simp; omega) _ rfl ?_; intro g5 cap5 w7 hown5 hgr5 hat5 hlt5)
            have hne : ∀ k, Value.ownBlock (.slice (some ⟨g, 0, none⟩) m cp) = some k → B < k := fun k hk => by have := SOwn.ge_baseK (hO4.alloc (.cells (encEntry.enc (1439, ⟨#[65]⟩)).toArray 40)) k hk; omega
            have hB5 := (h4.alloc (.cells (encEntry.enc (1439, ⟨#[65]⟩)).toArray 40)).farK hgr5 hne
            have hE5 := (hX4.alloc (.cells (encEntry.enc (1439, ⟨#[65]⟩)).toArray 40)).far_grownK hgr5 (SOwn.ge_baseK (hO4.alloc (.cells (encEntry.enc (1439, ⟨#[65]⟩)).toArray 40)))
            go_wp2_with fail
            go_ret
            exact ⟨xs ++ [(1439, ⟨#[65]⟩)], some ⟨g5, 0, none⟩, cap5, (by rw [List.length_append, HM.out]; rfl), (by rw [List.length_append, HM.out]; simp; omega), HS.out.add (enSm_one (by decide)), SOwn.snoc (E := encEntry) (by rw [HM.out]; exact hown5), hB5.mono (by omega), hE5⟩
end Go.Proofs.Ytpmbjdfecbmgoab
