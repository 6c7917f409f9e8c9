/- Plans that are drawn. -/
import Derived.Laws.AppendOwn
import Derived.Test.YtoklehmoeollfaaNq
import Derived.Test.YtoklehmoeollfaaZd
namespace Go.Proofs.Ytoklehmoeollfaa
open Go Go.ChangeShapes Go.WideShapes Go.ChangeAt Go.RowKit
set_option linter.unusedSimpArgs false
set_option linter.unusedVariables false

theorem NO.ext {w w' : World} {base cap B : Nat} {A : Option Addr} {hs : List VH} {rows : List (List Int)} (h : NO w base A cap hs rows) (hx : Ext B w w') (hB : B < base) : NO w' base A cap hs rows := ⟨h.hd.extK hx hB, h.len, fun i a b => ⟨(h.row i a b).1.extK hx hB, (h.row i a b).2⟩, h.dis⟩
def LensB (rows : List (List Int)) : Prop := ∀ j, (rwK rows j).length ≤ 7
theorem LensB.nil : LensB [] := fun j => by simp [rwK]
theorem LensB.snoc {rows : List (List Int)} {ys : List Int} (h : LensB rows) (hy : ys.length ≤ 7) : LensB (rows ++ [ys]) := fun j => by
  unfold rwK
  by_cases c : j < rows.length
  · have := h j
    unfold rwK at this
    rw [List.getD_eq_getElem?_getD] at this ⊢
    rw [List.getElem?_append_left c]; exact this
  · rw [List.getD_eq_getElem?_getD, List.getElem?_append_right (by omega)]
    cases hh : j - rows.length with
    | zero => simpa using hy
    | succ m => simp
theorem LensB.rep (n : Nat) : LensB (List.replicate n []) := fun j => by
  unfold rwK
  rw [List.getD_eq_getElem?_getD, List.getElem?_replicate]; split <;> simp
/-- One row in one block, its head in another one. -/
theorem NO.one {w : World} {base g r n : Nat} {ys : List Int} (hr : SBlk encNum w r 3 ys) (hg : SBlk encH w g 29 [((some ⟨r, 0, none⟩, n, n) : VH)]) (hn : ys.length = n) (hb : base ≤ r) (hb2 : base ≤ g) (hm : n ≤ maxLen) : NO w base (some ⟨g, 0, none⟩) 1 [(some ⟨r, 0, none⟩, n, n)] [ys] := by
  refine ⟨SOwn.of_blk hg hb2 rfl (by simp only [maxLen]; omega), rfl, fun i a b => ?_, fun i j hi hj hne => ?_⟩
  · obtain rfl : i = 0 := by simp at a; omega
    exact ⟨SOwn.of_blk hr hb hn hm, hn.symm⟩
  · simp at hi hj; omega
def RotaIs (B : Nat) (u : Int) (w : World) (e : Ending) (w' : World) : Prop :=
  ∃ (A : Option Addr) (cap : Nat) (hs : List VH) (rows : List (List Int)), e = .returned (.slice A rows.length cap) ∧ rows.length ≤ 9 ∧ LensB rows ∧ NO w' w.heap.size A cap hs rows ∧ RdU B u w' ∧ Ext B w w'
set_option maxRecDepth 100000 in
set_option maxHeartbeats 8000000 in
theorem rota_any (B : Nat) (u nn : Int) (w : World) (h : RdU B u w) (hu : u ≤ 600000) (hn : 0 ≤ nn) (hn1 : nn ≤ 1000000) : Calls Try.prog 35 #[.pointer (some ⟨B, 0, none⟩), .int .i64 nn] w (RotaIs B (u + 100) w) := by
  obtain ⟨i0, hi0, hz0, hz1, hz2⟩ := info_parts infoNum
  have HI := Lib.hid (And.intro hi0 (And.intro hz0 (And.intro hz1 hz2)))
  clear hi0 hz0 hz1 hz2
  obtain ⟨j0, hj0, hy0, hy1, hy2⟩ := info_parts infoH
  have HJ := Lib.hid (And.intro hj0 (And.intro hy0 (And.intro hy1 hy2)))
  clear hj0 hy0 hy1 hy2
  have hBw := h.lt
  go_enter Try.func35, Try.ntmps35
  go_wp2_with fail
  refine (pick_any B _ 5 _ h (by omega) (by omega) (by omega)).mono ?_; rintro e w1 ⟨bd, rfl, bd0, bd1, h1, hx1⟩
  obtain ⟨D, rfl⟩ : ∃ D : Nat, bd = D := ⟨bd.toNat, by omega⟩
  have hz1 := hx1.size
  go_wp2_with fail
  have hX1 := hx1.alloc (.cells #[] 29)
  refine (pick_any B _ 5 _ (h1.alloc (.cells #[] 29)) (by omega) (by omega) (by omega)).mono ?_; rintro e w2 ⟨yv, rfl, y0, y1, h2, hx2⟩
  obtain ⟨Y, rfl⟩ : ∃ Y : Nat, yv = Y := ⟨yv.toNat, by omega⟩
  have hX2 := hX1.trans hx2
  have q0 := blk_ext (blk_new w1 (.cells #[] 29)) hx2 (by omega)
  go_wp2_with fail
  go_loopw [6, 7] (fun av yv wr => ∃ (k q cv : Nat) (V : Option Addr) (hs : List VH) (rows : List (List Int)), yv = .int .i64 k ∧ q + k ≤ 4 ∧ av = .slice V q cv ∧ Hid (hs.length = q) ∧ Hid (LensB rows) ∧ NO wr w.heap.size V cv hs rows ∧ RdU B (u + 2 + 4 * q) wr ∧ Ext B w wr) (fun _ yv _ => (intOf yv).toNat)
  case atStart => exact ⟨Y, 0, 0, _, [], [], rfl, by omega, rfl, (by show _ = _; rfl), Lib.hid LensB.nil, NO.nil q0 hz1, h2.mono (by omega), hX2⟩
  case round =>
    obtain ⟨k, q, cv, V, hs, rows, rfl, qk, rfl, HS, HL, hN, hR, hX⟩ := hrel
    by_cases hlt : 0 < k
    · have hki : (0 : Int) < (k : Int) := by omega
      have hzr := hX.size
      go_wp2_with fail
      go_loopw [8, 9] (fun rv i wr => ∃ (b p c gu : Nat) (ys : List Int), b ≤ D ∧ p = b ∧ i = .int .i64 b ∧ rv = .slice (some ⟨gu, 0, none⟩) p c ∧ Hid (ys.length = p) ∧ SOwn encNum wr w.heap.size 3 (some ⟨gu, 0, none⟩) c ys ∧ Hid (∀ g, (some ⟨gu, 0, none⟩ : Option Addr) = some ⟨g, 0, none⟩ → ∀ j (hj : j < hs.length), hs[j].1 ≠ some ⟨g, 0, none⟩) ∧ NO wr w.heap.size V cv hs rows ∧ RdU B (u + 2 + 4 * q + p) wr ∧ Ext B w wr) (fun _ i _ => (D - intOf i).toNat)
      case atStart => exact ⟨0, 0, 0, _, [], by omega, rfl, rfl, rfl, (by show _ = _; rfl), SOwn.empty (blk_new wr _) hzr, Lib.hid (NO.fresh hN), hN.next (bel1 wr _), (hR.alloc _).mono (by omega), hX.alloc _⟩
      case round =>
        clear hN hR hX
        obtain ⟨b, p, c, gu, ys, b1, pb, rfl, rfl, HP, hO, HD, hN, hR, hX⟩ := hrel
        have PB := Lib.hid pb
        have hp4 : p ≤ 4 := by omega
        by_cases hbt : b < D
        · clear pb
          have hbi : (b : Int) < (D : Int) := by omega
          go_wp2_with fail
          refine (pick_any B _ 6 _ hR (by omega) (by omega) (by omega)).mono ?_; rintro e w3 ⟨v, rfl, v0, v1, h3, hx3⟩
          have hX3 := hX.trans hx3
          have hO3 := hO.extK hx3 hBw
          have hN3 := hN.ext hx3 hBw
          have hz3 := hX3.size
          have hOa := hO3.alloc (.cells (encNum.enc v).toArray 3)
          have hNa := hN3.next (bel1 w3 (.cells (encNum.enc v).toArray 3))
          go_wp2_with (at_builtin; refine wpList_append_lies _ rfl (.tmp 25) (.tmp 28) _ rfl w.heap.size 3 i0 _ 1 8 Try.underlying29 HI.out.1 HI.out.2.1 HI.out.2.2.1 HI.out.2.2.2 rfl (by omega) (.slice (some ⟨gu, 0, none⟩) p c) p (encNum.flat ys) rfl (by unfold SOwn at hOa; rw [HP.out] at hOa; exact hOa) ⟨w3.heap.size, 0, none⟩ 1 1 (encNum.enc v) rfl rfl (new_enc (E := encNum) w3 v _) (encNum.one _) (by omega) (by simp only [maxLen]; omega) (by omega) (by simp; omega) _ rfl ?_; intro g5 cap5 w5 hown5 hgr5 hat5 hlt5)
          have hge5 : ∀ j, Value.ownBlock (.slice (some ⟨gu, 0, none⟩) p c) = some j → w.heap.size ≤ j := fun j hj => SOwn.ge_baseK hOa j hj
          have hR5 := (h3.alloc (.cells (encNum.enc v).toArray 3)).farK hgr5 (fun j hj => by have := hge5 j hj; omega)
          have hX5 := (hX3.alloc (.cells (encNum.enc v).toArray 3)).far_grownK hgr5 hge5
          have hsn := SOwn.snoc (E := encNum) (xs := ys) (x := v) (by rw [HP.out]; exact hown5)
          have hN5 := hNa.apart hOa HD.out hgr5
          have HD5 := Lib.hid (hNa.apartNext hOa HD.out hat5)
          go_wp2_with fail
          go_roundw
          case rel => exact ⟨b + 1, p + 1, cap5, g5, ys ++ [v], by omega, by rw [PB.out], by go_num, rfl, Lib.hid (by rw [List.length_append, HP.out]; rfl), hsn, HD5, hN5, hR5.mono (by push_cast; omega), hX5⟩
          case measure => simp [intOf]; omega
        · have hbi : ¬ (b : Int) < (D : Int) := by omega
          clear pb
          have hz3 := hX.size
          have hHa := hN.hd.alloc (.cells (encH.enc ((some ⟨gu, 0, none⟩, p, c) : VH)).toArray 29)
          have hNa := hN.next (bel1 wr (.cells (encH.enc ((some ⟨gu, 0, none⟩, p, c) : VH)).toArray 29))
          have hOa := hO.next (bel1 wr (.cells (encH.enc ((some ⟨gu, 0, none⟩, p, c) : VH)).toArray 29))
          go_wp2_with (at_builtin; refine wpList_append_lies _ rfl (.tmp 30) (.tmp 32) _ rfl w.heap.size 29 j0 _ 1 24 Try.underlying23 HJ.out.1 HJ.out.2.1 HJ.out.2.2.1 HJ.out.2.2.2 rfl (by omega) (.slice V q cv) q (encH.flat hs) rfl (by unfold SOwn at hHa; rw [HS.out] at hHa; exact hHa) ⟨wr.heap.size, 0, none⟩ 1 1 (encH.enc ((some ⟨gu, 0, none⟩, p, c) : VH)) rfl rfl (new_enc (E := encH) wr ((some ⟨gu, 0, none⟩, p, c) : VH) _) (encH.one _) (by omega) (by simp only [maxLen]; omega) (by omega) (by simp; omega) _ rfl ?_; intro g5 cap5 w5 hown5 hgr5 hat5 hlt5)
          have hge5 : ∀ j, Value.ownBlock (.slice V q cv) = some j → w.heap.size ≤ j := fun j hj => SOwn.ge_baseK hHa j hj
          have hR5 := (hR.alloc (.cells (encH.enc ((some ⟨gu, 0, none⟩, p, c) : VH)).toArray 29)).farK hgr5 (fun j hj => by have := hge5 j hj; omega)
          have hX5 := (hX.alloc (.cells (encH.enc ((some ⟨gu, 0, none⟩, p, c) : VH)).toArray 29)).far_grownK hgr5 hge5
          have hsn := SOwn.snoc (E := encH) (xs := hs) (x := ((some ⟨gu, 0, none⟩, p, c) : VH)) (by rw [HS.out]; exact hown5)
          have hN5 := hNa.snoc hOa HP.out (HD.out gu rfl) hsn (by rw [HS.out]; exact hgr5)
          have HL5 := Lib.hid (HL.out.snoc (ys := ys) (by rw [HP.out]; omega))
          have hkm : (k : Int) - 1 = ((k - 1 : Nat) : Int) := by omega
          go_wp2_with fail
          go_roundw
          case rel => exact ⟨k - 1, q + 1, cap5, some ⟨g5, 0, none⟩, hs ++ [(some ⟨gu, 0, none⟩, p, c)], rows ++ [ys], by first | rfl | rw [hkm], by omega, rfl, Lib.hid (by rw [List.length_append, HS.out]; rfl), HL5, hN5, hR5.mono (by push_cast; omega), hX5⟩
          case measure => simp [intOf]; omega
    · have hki : ¬ (0 : Int) < (k : Int) := by omega
      have hq4 : q ≤ 4 := by omega
      go_wp2_with fail
      refine (pick_any B _ 4 _ hR (by omega) (by omega) (by omega)).mono ?_; rintro e w3 ⟨t, rfl, t0, t1, h3, hx3⟩
      have hX3 := hX.trans hx3
      have hN3 := hN.ext hx3 hBw
      by_cases ht : t = 0
      · subst ht
        go_wp2_with fail
        refine (pick_any B _ 8 _ h3 (by omega) (by omega) (by omega)).mono ?_; rintro e w4 ⟨ya, rfl, ya0, ya1, h4, hx4⟩
        go_wp2_with fail
        refine (pick_any B _ 6 _ h4 (by omega) (by omega) (by omega)).mono ?_; rintro e w6 ⟨fa, rfl, fa0, fa1, h6, hx6⟩
        have hX6 := (hX3.trans hx4).trans hx6
        have hz6 := hX6.size
        have hbd := rtI_bd (1 + ya) (1 + fa)
        obtain ⟨rw9, hrw⟩ : ∃ rows, rtI (1 + ya) (1 + fa) = rows := ⟨_, rfl⟩
        rw [hrw] at hbd
        obtain ⟨m, hm⟩ : ∃ m, rw9.length = m := ⟨_, rfl⟩
        rw [hm] at hbd
        obtain ⟨hm8, hl6⟩ := hbd
        have HR9 := Lib.hid hrw
        have HM9 := Lib.hid hm
        have HLen : Hid (LensB rw9) := Lib.hid (fun j => by have := hl6 j; omega)
        clear hrw hm hl6
        go_wp2_with fail
        refine (sRt_is _ HR9.out HM9.out).mono ?_; rintro e w7 ⟨A7, c7, hs7, rfl, hN7, hw7⟩
        have h7 := h6.next hw7
        have hX7 := hX6.of_below hw7
        have hN7 := hN7.mono hz6
        clear HS
        have HS : Hid (hs7.length = m) := Lib.hid (by rw [hN7.len, HM9.out])
        go_wp2_with fail
        refine (odd0_any B _ nn _ h7 (by omega) hn hn1).mono ?_; rintro e wo ⟨bb, rfl, ho, hxo⟩
        have hNo := hN7.ext hxo hBw
        have hXo := hX7.trans hxo
        have hzo := hXo.size
        cases bb
        · go_wp2_with fail
          go_ret
          exact ⟨A7, c7, hs7, rw9, ret_sl9 (by rw [← hNo.len]; exact HS.out.symm), by rw [← hNo.len, HS.out]; omega, HLen.out, hNo, ho.mono (by push_cast; omega), hXo⟩
        · go_wp2_with fail
          refine (pick_any B _ 3 _ ho (by omega) (by omega) (by omega)).mono ?_; rintro e wp ⟨j, rfl, jj0, jj1, hp, hxp⟩
          have hNp := hNo.ext hxp hBw
          have hXp := hXo.trans hxp
          have hzp := hXp.size
          have hj : j = 0 ∨ j = 1 ∨ j = 2 := by omega
          rcases hj with rfl | rfl | rfl
          · go_wp2_with (first | (at_make; refine wpList_make_structs _ encNum (0 : Int) rfl _ _ 29 rfl 3 i0 _ Try.underlying29 HI.out.1 HI.out.2.1 HI.out.2.2.1 rfl .i64 .i64 7 rfl rfl (by rw [HI.out.2.2.2]; omega) (by omega) ?_; (have hb1 : SBlk encNum (wp.alloc (.cells (encNum.flat (List.replicate 7 (0 : Int))).toArray 3)) wp.heap.size 3 (List.replicate 7 (0 : Int)) := blk_new wp _); (have hN1 := hNp.next (bel1 wp (.cells (encNum.flat (List.replicate 7 (0 : Int))).toArray 3))); (have HFr := Lib.hid (NO.fresh hNp)); (have hR1 := hp.alloc (.cells (encNum.flat (List.replicate 7 (0 : Int))).toArray 3)); (have hX1_ := hXp.alloc (.cells (encNum.flat (List.replicate 7 (0 : Int))).toArray 3)); (have hz1_ := hX1_.size); (generalize wp.alloc (.cells (encNum.flat (List.replicate 7 (0 : Int))).toArray 3) = wz at hb1 hN1 hR1 hX1_ hz1_ ⊢); (have hg7 : w.heap.size ≤ wp.heap.size := hzp); (generalize wp.heap.size = g7 at hb1 HFr hg7 ⊢); (have hHa := hN1.hd.alloc (.cells (encH.enc ((some ⟨g7, 0, none⟩, 7, 7) : VH)).toArray 29)); (have hNa := hN1.next (bel1 wz (.cells (encH.enc ((some ⟨g7, 0, none⟩, 7, 7) : VH)).toArray 29))); (have hO7 := SOwn.of_blk (n := 7) (hb1.next (bel1 wz (.cells (encH.enc ((some ⟨g7, 0, none⟩, 7, 7) : VH)).toArray 29))) hg7 (by simp) (by simp only [maxLen]; omega))) | (at_builtin; refine wpList_append_lies _ rfl (.tmp 52) (.tmp 54) _ rfl w.heap.size 29 j0 _ 1 24 Try.underlying23 HJ.out.1 HJ.out.2.1 HJ.out.2.2.1 HJ.out.2.2.2 rfl (by omega) (.slice A7 m c7) m (encH.flat hs7) rfl (by unfold SOwn at hHa; rw [HS.out] at hHa; exact hHa) ⟨wz.heap.size, 0, none⟩ 1 1 (encH.enc ((some ⟨g7, 0, none⟩, 7, 7) : VH)) rfl rfl (new_enc (E := encH) wz ((some ⟨g7, 0, none⟩, 7, 7) : VH) _) (encH.one _) (by omega) (by simp only [maxLen]; omega) (by omega) (by simp; omega) _ rfl ?_; intro g5 cap5 w5 hown5 hgr5 hat5 hlt5))
            have hge5 : ∀ j, Value.ownBlock (.slice A7 m c7) = some j → w.heap.size ≤ j := fun j hj => SOwn.ge_baseK hHa j hj
            have hR5 := (hR1.alloc (.cells (encH.enc ((some ⟨g7, 0, none⟩, 7, 7) : VH)).toArray 29)).farK hgr5 (fun j hj => by have := hge5 j hj; omega)
            have hX5 := (hX1_.alloc (.cells (encH.enc ((some ⟨g7, 0, none⟩, 7, 7) : VH)).toArray 29)).far_grownK hgr5 hge5
            have hsn := SOwn.snoc (E := encH) (xs := hs7) (x := ((some ⟨g7, 0, none⟩, 7, 7) : VH)) (by rw [HS.out]; exact hown5)
            have hN5 := hNa.snoc hO7 (by simp) (HFr.out g7 rfl) hsn (by rw [HS.out]; exact hgr5)
            go_wp2_with fail
            go_ret
            exact ⟨_, cap5, _, _, ret_sl9 (by rw [← hN5.len, List.length_append, HS.out]; rfl), by rw [← hN5.len, List.length_append, HS.out]; simp; omega, HLen.out.snoc (by simp), hN5, hR5.mono (by push_cast; omega), hX5⟩
          · have k0 : SBlk encNum ((wp.alloc (.cells #[.int .i64 6] 3)).alloc (.cells #[.slice (some ⟨wp.heap.size, 0, none⟩) 1 1] 29)) wp.heap.size 3 [6] := blk_old (blk_new wp (.cells #[.int .i64 6] 3)) (.cells #[.slice (some ⟨wp.heap.size, 0, none⟩) 1 1] 29)
            have k1 : SBlk encH ((wp.alloc (.cells #[.int .i64 6] 3)).alloc (.cells #[.slice (some ⟨wp.heap.size, 0, none⟩) 1 1] 29)) (wp.heap.size + 1) 29 [((some ⟨wp.heap.size, 0, none⟩, 1, 1) : VH)] := new2 wp (.cells #[.int .i64 6] 3) (.cells #[.slice (some ⟨wp.heap.size, 0, none⟩) 1 1] 29)
            go_wp2_with fail
            go_ret
            exact ⟨_, 1, _, [[6]], rfl, by decide, LensB.nil.snoc (ys := [6]) (by simp), NO.one k0 k1 rfl (by omega) (by omega) (by simp only [maxLen]; omega), ((hp.alloc _).alloc _).mono (by push_cast; omega), (hXp.alloc _).alloc _⟩
          · go_wp2_with (at_make; refine wpList_make_structs _ encH ((none, 0, 0) : VH) rfl _ _ 23 rfl 29 j0 _ Try.underlying23 HJ.out.1 HJ.out.2.1 HJ.out.2.2.1 rfl .i64 .i64 9 rfl rfl (by rw [HJ.out.2.2.2]; omega) (by omega) ?_)
            go_ret
            exact ⟨_, 9, _, List.replicate 9 [], rfl, by decide, LensB.rep 9, NO.made (blk_new wp (.cells (encH.flat (List.replicate 9 ((none, 0, 0) : VH))).toArray 29)) hzp (by simp only [maxLen]; omega), (hp.alloc _).mono (by push_cast; omega), hXp.alloc _⟩
      · have htb : (t == 0) = false := by rw [beq_eq_false_iff_ne]; exact ht
        go_wp2_with fail
        refine (odd0_any B _ nn _ h3 (by omega) hn hn1).mono ?_; rintro e wo ⟨bb, rfl, ho, hxo⟩
        have hNo := hN3.ext hxo hBw
        have hXo := hX3.trans hxo
        have hzo := hXo.size
        cases bb
        · go_wp2_with fail
          go_ret
          exact ⟨V, cv, hs, rows, ret_sl9 (by rw [← hNo.len]; exact HS.out.symm), by rw [← hNo.len, HS.out]; omega, HL.out, hNo, ho.mono (by push_cast; omega), hXo⟩
        · go_wp2_with fail
          refine (pick_any B _ 3 _ ho (by omega) (by omega) (by omega)).mono ?_; rintro e wp ⟨j, rfl, jj0, jj1, hp, hxp⟩
          have hNp := hNo.ext hxp hBw
          have hXp := hXo.trans hxp
          have hzp := hXp.size
          have hj : j = 0 ∨ j = 1 ∨ j = 2 := by omega
          rcases hj with rfl | rfl | rfl
          · go_wp2_with (first | (at_make; refine wpList_make_structs _ encNum (0 : Int) rfl _ _ 29 rfl 3 i0 _ Try.underlying29 HI.out.1 HI.out.2.1 HI.out.2.2.1 rfl .i64 .i64 7 rfl rfl (by rw [HI.out.2.2.2]; omega) (by omega) ?_; (have hb1 : SBlk encNum (wp.alloc (.cells (encNum.flat (List.replicate 7 (0 : Int))).toArray 3)) wp.heap.size 3 (List.replicate 7 (0 : Int)) := blk_new wp _); (have hN1 := hNp.next (bel1 wp (.cells (encNum.flat (List.replicate 7 (0 : Int))).toArray 3))); (have HFr := Lib.hid (NO.fresh hNp)); (have hR1 := hp.alloc (.cells (encNum.flat (List.replicate 7 (0 : Int))).toArray 3)); (have hX1_ := hXp.alloc (.cells (encNum.flat (List.replicate 7 (0 : Int))).toArray 3)); (have hz1_ := hX1_.size); (generalize wp.alloc (.cells (encNum.flat (List.replicate 7 (0 : Int))).toArray 3) = wz at hb1 hN1 hR1 hX1_ hz1_ ⊢); (have hg7 : w.heap.size ≤ wp.heap.size := hzp); (generalize wp.heap.size = g7 at hb1 HFr hg7 ⊢); (have hHa := hN1.hd.alloc (.cells (encH.enc ((some ⟨g7, 0, none⟩, 7, 7) : VH)).toArray 29)); (have hNa := hN1.next (bel1 wz (.cells (encH.enc ((some ⟨g7, 0, none⟩, 7, 7) : VH)).toArray 29))); (have hO7 := SOwn.of_blk (n := 7) (hb1.next (bel1 wz (.cells (encH.enc ((some ⟨g7, 0, none⟩, 7, 7) : VH)).toArray 29))) hg7 (by simp) (by simp only [maxLen]; omega))) | (at_builtin; refine wpList_append_lies _ rfl (.tmp 52) (.tmp 54) _ rfl w.heap.size 29 j0 _ 1 24 Try.underlying23 HJ.out.1 HJ.out.2.1 HJ.out.2.2.1 HJ.out.2.2.2 rfl (by omega) (.slice V q cv) q (encH.flat hs) rfl (by unfold SOwn at hHa; rw [HS.out] at hHa; exact hHa) ⟨wz.heap.size, 0, none⟩ 1 1 (encH.enc ((some ⟨g7, 0, none⟩, 7, 7) : VH)) rfl rfl (new_enc (E := encH) wz ((some ⟨g7, 0, none⟩, 7, 7) : VH) _) (encH.one _) (by omega) (by simp only [maxLen]; omega) (by omega) (by simp; omega) _ rfl ?_; intro g5 cap5 w5 hown5 hgr5 hat5 hlt5))
            have hge5 : ∀ j, Value.ownBlock (.slice V q cv) = some j → w.heap.size ≤ j := fun j hj => SOwn.ge_baseK hHa j hj
            have hR5 := (hR1.alloc (.cells (encH.enc ((some ⟨g7, 0, none⟩, 7, 7) : VH)).toArray 29)).farK hgr5 (fun j hj => by have := hge5 j hj; omega)
            have hX5 := (hX1_.alloc (.cells (encH.enc ((some ⟨g7, 0, none⟩, 7, 7) : VH)).toArray 29)).far_grownK hgr5 hge5
            have hsn := SOwn.snoc (E := encH) (xs := hs) (x := ((some ⟨g7, 0, none⟩, 7, 7) : VH)) (by rw [HS.out]; exact hown5)
            have hN5 := hNa.snoc hO7 (by simp) (HFr.out g7 rfl) hsn (by rw [HS.out]; exact hgr5)
            go_wp2_with fail
            go_ret
            exact ⟨_, cap5, _, _, ret_sl9 (by rw [← hN5.len, List.length_append, HS.out]; rfl), by rw [← hN5.len, List.length_append, HS.out]; simp; omega, HL.out.snoc (by simp), hN5, hR5.mono (by push_cast; omega), hX5⟩
          · have k0 : SBlk encNum ((wp.alloc (.cells #[.int .i64 6] 3)).alloc (.cells #[.slice (some ⟨wp.heap.size, 0, none⟩) 1 1] 29)) wp.heap.size 3 [6] := blk_old (blk_new wp (.cells #[.int .i64 6] 3)) (.cells #[.slice (some ⟨wp.heap.size, 0, none⟩) 1 1] 29)
            have k1 : SBlk encH ((wp.alloc (.cells #[.int .i64 6] 3)).alloc (.cells #[.slice (some ⟨wp.heap.size, 0, none⟩) 1 1] 29)) (wp.heap.size + 1) 29 [((some ⟨wp.heap.size, 0, none⟩, 1, 1) : VH)] := new2 wp (.cells #[.int .i64 6] 3) (.cells #[.slice (some ⟨wp.heap.size, 0, none⟩) 1 1] 29)
            go_wp2_with fail
            go_ret
            exact ⟨_, 1, _, [[6]], rfl, by decide, LensB.nil.snoc (ys := [6]) (by simp), NO.one k0 k1 rfl (by omega) (by omega) (by simp only [maxLen]; omega), ((hp.alloc _).alloc _).mono (by push_cast; omega), (hXp.alloc _).alloc _⟩
          · go_wp2_with (at_make; refine wpList_make_structs _ encH ((none, 0, 0) : VH) rfl _ _ 23 rfl 29 j0 _ Try.underlying23 HJ.out.1 HJ.out.2.1 HJ.out.2.2.1 rfl .i64 .i64 9 rfl rfl (by rw [HJ.out.2.2.2]; omega) (by omega) ?_)
            go_ret
            exact ⟨_, 9, _, List.replicate 9 [], rfl, by decide, LensB.rep 9, NO.made (blk_new wp (.cells (encH.flat (List.replicate 9 ((none, 0, 0) : VH))).toArray 29)) hzp (by simp only [maxLen]; omega), (hp.alloc _).mono (by push_cast; omega), hXp.alloc _⟩
def DrewRota (w : World) (e : Ending) (w' : World) : Prop := ∃ (A : Option Addr) (cap : Nat) (hs : List VH) (rows : List (List Int)), e = .returned (.slice A rows.length cap) ∧ rows.length ≤ 9 ∧ LensB rows ∧ NO w' w.heap.size A cap hs rows ∧ Below w.heap.size w w'
set_option maxHeartbeats 4000000 in
theorem drRotaValid_any (a : Option Addr) (len cap : Nat) (w : World) (h : CodeOk w a len cap) : Calls Try.prog 10 #[.slice a len cap] w (DrewRota w) := by
  go_enter Try.func10, Try.ntmps10
  go_wp2_with fail
  refine (open_any _ _ _ _ h).mono ?_; rintro e w1 ⟨B, rfl, hB, h1, hb1⟩
  go_wp2_with fail
  refine (rota_any B 0 2 _ h1 (by omega) (by omega) (by omega)).mono ?_; rintro e w2 ⟨A, cp, hs, rows, rfl, h9, hl, hN, _, hx⟩
  have hB2 := hb1.trans (hx.below (N := w.heap.size) (by omega) hb1.size)
  go_wp2_with fail
  go_ret
  exact ⟨A, cp, hs, rows, rfl, h9, hl, hN.mono hb1.size, hB2⟩
set_option maxHeartbeats 4000000 in
theorem drRotaRest_any (a : Option Addr) (len cap : Nat) (w : World) (h : CodeOk w a len cap) : Calls Try.prog 14 #[.slice a len cap] w (DrewRota w) := by
  go_enter Try.func14, Try.ntmps14
  go_wp2_with fail
  refine (open_any _ _ _ _ h).mono ?_; rintro e w1 ⟨B, rfl, hB, h1, hb1⟩
  go_wp2_with fail
  refine (rota_any B 0 9 _ h1 (by omega) (by omega) (by omega)).mono ?_; rintro e w2 ⟨A, cp, hs, rows, rfl, h9, hl, hN, _, hx⟩
  have hB2 := hb1.trans (hx.below (N := w.heap.size) (by omega) hb1.size)
  go_wp2_with fail
  go_ret
  exact ⟨A, cp, hs, rows, rfl, h9, hl, hN.mono hb1.size, hB2⟩
end Go.Proofs.Ytoklehmoeollfaa
