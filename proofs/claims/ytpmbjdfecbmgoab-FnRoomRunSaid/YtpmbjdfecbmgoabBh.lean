/- What the law of RoomRun draws. -/
import Derived.Test.YtpmbjdfecbmgoabBg
namespace Go.Proofs.Ytpmbjdfecbmgoab
open Go Go.ChangeShapes Go.WideShapes Go.ChangeAt Go.RowKit
set_option linter.unusedSimpArgs false
set_option linter.unusedVariables false

def DrewRun (w : World) (e : Ending) (w' : World) : Prop := ∃ (a o k : Int) (xs : List Int) (bs : List Bool) (A : Option Addr) (g cp cp2 : Nat), e = .returned (.tuple #[.int .i64 a, .int .i64 o, .int .i64 k, .slice A xs.length cp, .slice (some ⟨g, 0, none⟩) bs.length cp2]) ∧ (-600 ≤ a ∧ a ≤ 1001) ∧ (-600 ≤ o ∧ o ≤ 1001) ∧ (-1 ≤ k ∧ k ≤ 101) ∧ xs.length ≤ 61 ∧ bs.length ≤ 62 ∧ SOwn encNum w' w.heap.size 3 A cp xs ∧ SOwn encBool w' w.heap.size 4 (some ⟨g, 0, none⟩) cp2 bs ∧ Below w.heap.size w w'
set_option maxRecDepth 100000 in
set_option maxHeartbeats 4000000 in
theorem drRoomRun_any (a : Option Addr) (len cap : Nat) (w : World) (h : CodeOk w a len cap) : Calls Try.prog 13 #[.slice a len cap] w (DrewRun w) := by
  obtain ⟨i0, hi0, hz0, hz1, hz2⟩ := info_parts infoBool
  have HI := Lib.hid (And.intro hi0 (And.intro hz0 (And.intro hz1 hz2)))
  clear hi0 hz0 hz1 hz2
  go_enter Try.func13, Try.ntmps13
  go_wp2_with fail
  refine (open_any _ _ _ _ h).mono ?_; rintro e w1 ⟨B, rfl, hB, h1, hb1⟩
  have hb1z := hb1.size
  have hBl := h1.lt
  go_wp2_with fail
  refine (lights_any B 0 14 _ h1 (by omega) (by omega) (by omega)).mono ?_; rintro e w2 ⟨xs, A, cp, rfl, hx6, hA2, h2, hx2⟩
  obtain ⟨m, hm⟩ : ∃ m, xs.length = m := ⟨_, rfl⟩
  rw [hm] at hx6 ⊢
  have HM := Lib.hid hm
  clear hm
  have hz2 := hx2.size
  have hB2l := h2.lt
  have HAL : Hid (∀ g, A = some ⟨g, 0, none⟩ → g < w2.heap.size) := Lib.hid (fun g hg => by rcases hA2.form with ⟨e, _⟩ | ⟨g1, e, _, h9⟩; rw [e] at hg; cases hg; rw [e] at hg; cases hg; exact h9)
  go_wp2_with fail
  go_loopw [9, 10] (fun vo vk wr => ∃ (k g cp2 : Nat) (bs : List Bool), vk = .int .i64 k ∧ vo = .slice (some ⟨g, 0, none⟩) k cp2 ∧ k ≤ m ∧ Hid (bs.length = k) ∧ SOwn encBool wr w2.heap.size 4 (some ⟨g, 0, none⟩) cp2 bs ∧ SOwn encNum wr w1.heap.size 3 A cp xs ∧ RdU B (40 + k) wr ∧ Ext B w2 wr) (fun _ vk _ => (m - intOf vk).toNat)
  case atStart => exact ⟨0, _, 0, [], rfl, rfl, by omega, (by show _ = _; rfl), SOwn.empty (blk_new w2 _) (Nat.le_refl _), hA2.alloc _, (h2.alloc _).mono (by omega), (Ext.refl B w2).alloc _⟩
  case round =>
    clear hA2
    obtain ⟨k, g, cp2, bs, rfl, rfl, k1, HK, hS, hA, hR, hX⟩ := hrel
    by_cases hlt : k < m
    · have hki : (k : Int) < (m : Int) := by omega
      go_wp2_with fail
      refine (pick_any B (_) 2 _ hR (by omega) (by omega) (by omega)).mono ?_; rintro e w3 ⟨c, rfl, c0, c1, hw3, hxw3⟩
      have hS3 := hS.extK hxw3 hB2l
      have hA3 := hA.extK hxw3 hBl
      have hX3 := hX.trans hxw3
      have hz3 := hX3.size
      go_wp2_with (at_builtin; refine wpList_append_lies _ rfl (.tmp 22) (.tmp 26) _ rfl w2.heap.size 4 i0 _ 1 1 Try.underlying29 HI.out.1 HI.out.2.1 HI.out.2.2.1 HI.out.2.2.2 rfl (by omega) (.slice (some ⟨g, 0, none⟩) k cp2) k (encBool.flat bs) rfl (by have q := hS3.alloc (.cells (encBool.enc ((c == 0))).toArray 4); unfold SOwn at q; rw [HK.out] at q; exact q) ⟨w3.heap.size, 0, none⟩ 1 1 (encBool.enc ((c == 0))) rfl rfl (new_enc (E := encBool) w3 ((c == 0)) _) (encBool.one _) (by omega) (by simp only [maxLen]; omega) (by omega) (by simp; omega) _ rfl ?_; intro g5 cap5 w7 hown5 hgr5 hat5 hlt5)
      have hg0 : w2.heap.size ≤ g := by rcases hS3.form with ⟨e, _⟩ | ⟨g1, e, h9, _⟩; cases e; cases e; exact h9
      have hR7 := (hw3.alloc (.cells (encBool.enc ((c == 0))).toArray 4)).farK hgr5 (fun k hk => by simp [Value.ownBlock] at hk; omega)
      have hX7 := (hX3.alloc (.cells (encBool.enc ((c == 0))).toArray 4)).far_grownK hgr5 (fun k hk => by simp [Value.ownBlock] at hk; omega)
      have hA7 := (hA3.alloc (.cells (encBool.enc ((c == 0))).toArray 4)).grown_far hgr5 (fun g9 hg e9 => by have h8 := HAL.out g9 hg; simp [Value.ownBlock] at e9; omega)
      have hsn := SOwn.snoc (E := encBool) (xs := bs) (x := (c == 0)) (by rw [HK.out]; exact hown5)
      go_wp2_with fail
      go_roundw
      case rel => exact ⟨k + 1, g5, cap5, bs ++ [(c == 0)], by go_num, rfl, by omega, (by show _ = _; rw [List.length_append, HK.out]; rfl), hsn, hA7, hR7.mono (by push_cast; omega), hX7⟩
      case measure => simp [intOf]; omega
    · have hki : ¬ (k : Int) < (m : Int) := by omega
      go_wp2_with fail
      refine (odd0_any B _ 14 _ hR (by omega) (by omega) (by omega)).mono ?_; rintro e w3 ⟨b, rfl, hw3, hxw3⟩
      have hS3 := hS.extK hxw3 hB2l
      have hA3 := hA.extK hxw3 hBl
      have hX3 := hX.trans hxw3
      have hz3 := hX3.size
      cases b
      · have hBg := hw3.lt
        go_wp2_with fail
        refine (warm_any B _ _ hw3 (by omega)).mono ?_; rintro e w8 ⟨a, rfl, a0, a1, h8, hx8⟩
        go_wp2_with fail
        refine (warm_any B _ _ h8 (by omega)).mono ?_; rintro e w9 ⟨o, rfl, o0, o1, h9, hx9⟩
        go_wp2_with fail
        refine (keeps_any B _ _ h9 (by omega)).mono ?_; rintro e wA ⟨kk, rfl, k0, k9, h10, hx10⟩
        have hxa := (hx8.trans hx9).trans hx10
        have hSa := hS3.extK hxa hB2l
        have hAa := hA3.extK hxa hBl
        have hXa := (hX3).trans hxa
        have hBa := hb1.trans ((hx2.trans hXa).below (N := w.heap.size) (by omega) hb1.size)
        go_wp2
        exact bodyPost_ret (v := .tuple #[.int .i64 a, .int .i64 o, .int .i64 kk, .slice A m cp, .slice (some ⟨g, 0, none⟩) k cp2]) (by simp [results, Try.results13, go_sem]) rfl ⟨a, o, kk, xs, bs, A, g, cp, cp2, (by rw [HM.out, HK.out]), ⟨a0, a1⟩, ⟨o0, o1⟩, ⟨k0, k9⟩, by rw [HM.out]; exact hx6, by rw [HK.out]; omega, hAa.mono hb1z, hSa.mono (by omega), hBa⟩
      · go_wp2_with (at_builtin; refine wpList_append_lies _ rfl (.tmp 30) (.tmp 31) _ rfl w2.heap.size 4 i0 _ 1 1 Try.underlying29 HI.out.1 HI.out.2.1 HI.out.2.2.1 HI.out.2.2.2 rfl (by omega) (.slice (some ⟨g, 0, none⟩) k cp2) k (encBool.flat bs) rfl (by have q := hS3.alloc (.cells (encBool.enc (true)).toArray 4); unfold SOwn at q; rw [HK.out] at q; exact q) ⟨w3.heap.size, 0, none⟩ 1 1 (encBool.enc (true)) rfl rfl (new_enc (E := encBool) w3 (true) _) (encBool.one _) (by omega) (by simp only [maxLen]; omega) (by omega) (by simp; omega) _ rfl ?_; intro g5 cap5 w7 hown5 hgr5 hat5 hlt5)
        have hg0 : w2.heap.size ≤ g := by rcases hS3.form with ⟨e, _⟩ | ⟨g1, e, h9, _⟩; cases e; cases e; exact h9
        have hR7 := (hw3.alloc (.cells (encBool.enc (true)).toArray 4)).farK hgr5 (fun k hk => by simp [Value.ownBlock] at hk; omega)
        have hX7 := (hX3.alloc (.cells (encBool.enc (true)).toArray 4)).far_grownK hgr5 (fun k hk => by simp [Value.ownBlock] at hk; omega)
        have hA7 := (hA3.alloc (.cells (encBool.enc (true)).toArray 4)).grown_far hgr5 (fun g9 hg e9 => by have h8 := HAL.out g9 hg; simp [Value.ownBlock] at e9; omega)
        have hsn := SOwn.snoc (E := encBool) (xs := bs) (x := true) (by rw [HK.out]; exact hown5)
        have HK2 : Hid ((bs ++ [true]).length = k + 1) := Lib.hid (by rw [List.length_append, HK.out]; rfl)
        have hBg := hR7.lt
        go_wp2_with fail
        refine (warm_any B _ _ hR7 (by omega)).mono ?_; rintro e w8 ⟨a, rfl, a0, a1, h8, hx8⟩
        go_wp2_with fail
        refine (warm_any B _ _ h8 (by omega)).mono ?_; rintro e w9 ⟨o, rfl, o0, o1, h9, hx9⟩
        go_wp2_with fail
        refine (keeps_any B _ _ h9 (by omega)).mono ?_; rintro e wA ⟨kk, rfl, k0, k9, h10, hx10⟩
        have hxa := (hx8.trans hx9).trans hx10
        have hSa := hsn.extK hxa hB2l
        have hAa := hA7.extK hxa hBl
        have hXa := (hX7).trans hxa
        have hBa := hb1.trans ((hx2.trans hXa).below (N := w.heap.size) (by omega) hb1.size)
        go_wp2
        exact bodyPost_ret (v := .tuple #[.int .i64 a, .int .i64 o, .int .i64 kk, .slice A m cp, .slice (some ⟨g5, 0, none⟩) (k + 1) cap5]) (by simp [results, Try.results13, go_sem]) rfl ⟨a, o, kk, xs, bs ++ [true], A, g5, cp, cap5, (by rw [HM.out, HK2.out]), ⟨a0, a1⟩, ⟨o0, o1⟩, ⟨k0, k9⟩, by rw [HM.out]; exact hx6, by rw [HK2.out]; omega, hAa.mono hb1z, hSa.mono (by omega), hBa⟩
end Go.Proofs.Ytpmbjdfecbmgoab
