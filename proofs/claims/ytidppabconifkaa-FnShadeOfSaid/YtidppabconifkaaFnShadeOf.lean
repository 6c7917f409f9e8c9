/- FnShadeOf: whatever the input, the law returns true, and its arguments read as they did. No conditions beyond those of the statement's row. -/
import Derived.Test.YtidppabconifkaaYe
import Derived.Test.YtidppabconifkaaYh
import Derived.Test.YtidppabconifkaaLp
namespace Go.Proofs.Ytidppabconifkaa.fnShadeOf
open Go.Proofs.Ytidppabconifkaa
open Go.ChangeShapes Go.WideShapes Go.ChangeAt Go.RowKit Go.Joins
set_option linter.unusedVariables false
set_option linter.unusedSimpArgs false
set_option linter.unnecessarySimpa false

theorem own : ownKnob Try.prog.godebug = none := by kernel_rfl
theorem laidOut : laidOutB Try.prog = true := by kernel_rfl

set_option maxRecDepth 100000 in
set_option maxHeartbeats 4000000 in
theorem walk (w : World) (a0 : Option Addr) (len0 cap0 : Nat) (w0 : CodeOk w a0 len0 cap0) :
    Calls Try.prog 6 #[.slice a0 len0 cap0] w fun e w' => e = .returned (.bool true) ∧ Below w.heap.size w w' := by
  by_cases hl : 1048576 < len0
  · have w0' := w0.2.1
    unfold maxLen at w0'
    clear w0
    go_enter Try.func6, Try.ntmps6
    go_wp2
    go_ret
    exact ⟨rfl, Below.refl _ _⟩
  · have w0' := w0.2.1
    unfold maxLen at w0'
    have hle := w0.1
    have HW := Lib.hid w0
    clear w0
    go_enter Try.func6, Try.ntmps6
    go_wp2_with fail
    refine (drShadeOf_any _ _ _ _ HW.out).mono ?_; rintro e w1 ⟨d, xs, A, cp, e, f, rfl, ⟨d0, d1⟩, hx6, hO0, ⟨e0_, e1_⟩, ⟨f0_, f1_⟩, hB0⟩
    obtain ⟨m, hm⟩ : ∃ m, xs.length = m := ⟨_, rfl⟩
    rw [hm] at hx6 ⊢
    have HM := Lib.hid hm
    clear hm
    cases hv : okB d xs e f
    · obtain ⟨l, hl⟩ : ∃ l, shL d xs e f = l := ⟨_, rfl⟩
      have HL := Lib.hid hl
      have HQ : Hid (l.length = 0) := Lib.hid (by rw [← hl, shL_no hv]; rfl)
      clear hv hl
      have hP1 : (w1.alloc (.cells #[.int .i64 d, .slice A m cp] 25)).heap[w1.heap.size]? = some (.cells #[.int .i64 d, .slice A m cp] 25) := by have := blk_new (w1) (.cells #[.int .i64 d, .slice A m cp] 25); simpa using this
      have hB1 := hB0.alloc hB0.size (.cells #[.int .i64 d, .slice A m cp] 25)
      have hO1 := hO0.next (bel1 _ (.cells #[.int .i64 d, .slice A m cp] 25))
      have zBP := hB0.size
      obtain ⟨cP1_0, cP1_1, fP1_0, fP1_1, zP1⟩ := blk2 hP1
      go_wp2_with fail
      refine (iSh_len d A cp xs e f _ HM.out hO1.row (by omega) HL.out HQ.out).mono ?_; rintro e' w2 ⟨V, cv, rfl, hV2, hw2⟩
      have hP2 := blk_next hP1 hw2
      have hO2 := hO1.next hw2
      have hB2 := bel_next hB1 hw2
      have hV2 := hV2.mono (base' := w.heap.size) hB1.size
      obtain ⟨cP2_0, cP2_1, fP2_0, fP2_1, zP2⟩ := blk2 hP2
      go_wp2_with fail
      refine (sSh_len d A cp xs e f _ HM.out hO2.row (by omega) HL.out HQ.out).mono ?_; rintro e' w3 ⟨U, cu, rfl, hU3, hw3⟩
      have hP3 := blk_next hP2 hw3
      have hO3 := hO2.next hw3
      have hV3 := hV2.next hw3
      have hB3 := bel_next hB2 hw3
      have hU3 := hU3.mono (base' := w.heap.size) hB2.size
      go_wp2_with fail
      refine (sameNums_is V U cv cu l HQ.out hV3.row hU3.row (by omega)).mono ?_; rintro e' w4 ⟨rfl, hw4⟩
      have hP4 := blk_next hP3 hw4
      have hO4 := hO3.next hw4
      have hV4 := hV3.next hw4
      have hU4 := hU3.next hw4
      have hB4 := bel_next hB3 hw4
      obtain ⟨cP4_0, cP4_1, fP4_0, fP4_1, zP4⟩ := blk2 hP4
      go_wp2_with fail
      go_loopw [7] (fun iv wr => ∃ k : Nat, iv = .int .i64 k ∧ k ≤ 0 ∧ wr.heap[w1.heap.size]? = some (.cells #[.int .i64 d, .slice A m cp] 25) ∧ SOwn encNum wr w.heap.size 3 A cp xs ∧ SOwn encNum wr w.heap.size 3 V cv l ∧ Below w.heap.size w wr) (fun iv _ => (0 - intOf iv).toNat)
      case atStart => exact ⟨0, rfl, by omega, hP4, hO4, hV4, hB4⟩
      case round =>
        clear hP4 hO4 hV4
        obtain ⟨k, rfl, k1, hP, hO, hV, hB⟩ := hrel
        have hki : ¬ (k : Int) < (0 : Int) := by omega
        obtain rfl : k = 0 := by omega
        go_wp2_with fail
        refine (alive_any _).mono ?_; rintro e' w' ⟨rfl, rfl⟩
        go_wp2
        go_ret
        exact ⟨rfl, hB⟩
    · obtain ⟨hcv, ⟨e0, e1⟩, f0, f1⟩ := okB_iff.1 hv
      obtain ⟨l, hl⟩ : ∃ l, shL d xs e f = l := ⟨_, rfl⟩
      have HL := Lib.hid hl
      have HQ : Hid (l.length = m) := Lib.hid (by rw [← hl, shL_len hv, HM.out])
      have HAT : Hid (∀ (i : Nat) (hi : i < l.length), l[i] = shI d xs e f (i : Nat)) := Lib.hid (by subst hl; exact fun i hi => shL_at hv hi)
      have HCV := Lib.hid hcv
      clear hv hl hcv
      have hP1 : (w1.alloc (.cells #[.int .i64 d, .slice A m cp] 25)).heap[w1.heap.size]? = some (.cells #[.int .i64 d, .slice A m cp] 25) := by have := blk_new (w1) (.cells #[.int .i64 d, .slice A m cp] 25); simpa using this
      have hB1 := hB0.alloc hB0.size (.cells #[.int .i64 d, .slice A m cp] 25)
      have hO1 := hO0.next (bel1 _ (.cells #[.int .i64 d, .slice A m cp] 25))
      have zBP := hB0.size
      obtain ⟨cP1_0, cP1_1, fP1_0, fP1_1, zP1⟩ := blk2 hP1
      go_wp2_with fail
      refine (iSh_len d A cp xs e f _ HM.out hO1.row (by omega) HL.out HQ.out).mono ?_; rintro e' w2 ⟨V, cv, rfl, hV2, hw2⟩
      have hP2 := blk_next hP1 hw2
      have hO2 := hO1.next hw2
      have hB2 := bel_next hB1 hw2
      have hV2 := hV2.mono (base' := w.heap.size) hB1.size
      obtain ⟨cP2_0, cP2_1, fP2_0, fP2_1, zP2⟩ := blk2 hP2
      go_wp2_with fail
      refine (sSh_len d A cp xs e f _ HM.out hO2.row (by omega) HL.out HQ.out).mono ?_; rintro e' w3 ⟨U, cu, rfl, hU3, hw3⟩
      have hP3 := blk_next hP2 hw3
      have hO3 := hO2.next hw3
      have hV3 := hV2.next hw3
      have hB3 := bel_next hB2 hw3
      have hU3 := hU3.mono (base' := w.heap.size) hB2.size
      go_wp2_with fail
      refine (sameNums_is V U cv cu l HQ.out hV3.row hU3.row (by omega)).mono ?_; rintro e' w4 ⟨rfl, hw4⟩
      have hP4 := blk_next hP3 hw4
      have hO4 := hO3.next hw4
      have hV4 := hV3.next hw4
      have hU4 := hU3.next hw4
      have hB4 := bel_next hB3 hw4
      obtain ⟨cP4_0, cP4_1, fP4_0, fP4_1, zP4⟩ := blk2 hP4
      go_wp2_with fail
      go_loopw [7] (fun iv wr => ∃ k : Nat, iv = .int .i64 k ∧ k ≤ m ∧ wr.heap[w1.heap.size]? = some (.cells #[.int .i64 d, .slice A m cp] 25) ∧ SOwn encNum wr w.heap.size 3 A cp xs ∧ SOwn encNum wr w.heap.size 3 V cv l ∧ Below w.heap.size w wr) (fun iv _ => (m - intOf iv).toNat)
      case atStart => exact ⟨0, rfl, by omega, hP4, hO4, hV4, hB4⟩
      case round =>
        clear hP4 hO4 hV4
        obtain ⟨k, rfl, k1, hP, hO, hV, hB⟩ := hrel
        by_cases hlt : k < m
        · have hki : (k : Int) < (m : Int) := by omega
          have hkx : k < xs.length := by rw [HM.out]; exact hlt
          have hkl : k < l.length := by rw [HQ.out]; exact hlt
          have hin := (cv_sq HCV.out).inC hkx
          have hsf := sh_fall (xs := xs) (f := f) hin e0 e1
          rw [← HAT.out k hkl] at hsf
          have hnc := nc_val HCV.out (ce_mk (xs := xs) (c := (k : Int)) ⟨by omega, by omega⟩) (dr_mk ⟨e0, e1⟩)
          obtain ⟨p0_, p1_, _, _, _⟩ := blk2 hP
          by_cases hfa : faN d k e = 0
          · rw [if_pos hfa] at hsf hnc
            have HNC := Lib.hid hnc
            have HS0 := Lib.hid hsf
            clear hnc hsf hfa
            go_wp2_with fail
            refine (iNc_is d A cp xs k e _ HM.out hO.row (by omega) HNC.out).mono ?_; rintro e' w9 ⟨rfl, hw9⟩
            have hP9 := blk_next hP hw9
            have hO9 := hO.next hw9
            have hV9 := hV.next hw9
            have hB9 := bel_next hB hw9
            obtain ⟨p2_, p3_, _, _, _⟩ := blk2 hP9
            obtain ⟨b2, off2, rfl, _, cV⟩ := rowNum hV9.row hkl
            rw [HS0.out] at cV
            go_wp2_with fail
            go_roundw
            case rel => exact ⟨k + 1, by go_num, by omega, hP9, hO9, hV9, hB9⟩
            case measure => simp [intOf]; omega
          · rw [if_neg hfa] at hsf hnc
            have hst := st_in hin e0 e1 (by omega)
            have hlen := (cvB_iff.1 HCV.out).2.1
            rw [HM.out] at hlen
            obtain ⟨x, hx⟩ : ∃ x : Nat, (k : Int) + stI d e = x := ⟨((k : Int) + stI d e).toNat, by have := hst.1.2.2.1; omega⟩
            rw [hx] at hsf hnc
            have hxm : x < m := by have := hst.1.2.2.2; omega
            have hxi : (x : Int) < (m : Int) := by omega
            have hxl : x < l.length := by rw [HQ.out]; exact hxm
            have hxx : x < xs.length := by rw [HM.out]; exact hxm
            have hx0 : (0 : Int) ≤ (x : Int) := by omega
            rw [← HAT.out x hxl, tlI_at hxx] at hsf
            have hpb : 0 ≤ l[x] ∧ l[x] ≤ 20 := by rw [HAT.out x hxl]; exact shd_rng HCV.out f0 _ _
            have htb : 0 ≤ xs[x] ∧ xs[x] ≤ 20 := (cvB_iff.1 HCV.out).2.2 _ (List.getElem_mem hxx)
            have HNC := Lib.hid hnc
            clear hnc hfa hst hlen hx hin
            go_wp2_with fail
            refine (iNc_is d A cp xs k e _ HM.out hO.row (by omega) HNC.out).mono ?_; rintro e' w9 ⟨rfl, hw9⟩
            have hP9 := blk_next hP hw9
            have hO9 := hO.next hw9
            have hV9 := hV.next hw9
            have hB9 := bel_next hB hw9
            obtain ⟨p2_, p3_, _, _, _⟩ := blk2 hP9
            obtain ⟨b1, off1, rfl, _, cA⟩ := rowNum hO9.row hxx
            obtain ⟨b2, off2, rfl, _, cV⟩ := rowNum hV9.row hxl
            obtain ⟨_, _, e9, _, cK⟩ := rowNum hV9.row hkl
            simp only [Option.some.injEq, Addr.mk.injEq, and_true] at e9
            obtain ⟨rfl, rfl⟩ := e9
            generalize xs[x] = t at cA hsf htb
            generalize l[x] = p at cV hsf hpb
            rw [hsf] at cK
            obtain ⟨p0, p1⟩ := hpb
            obtain ⟨t0, t1⟩ := htb
            clear hsf hP hO hV hw9
            obtain ⟨mx, hmx⟩ : ∃ q, max p t = q := ⟨_, rfl⟩
            obtain ⟨y, hy⟩ : ∃ q, mx - f = q := ⟨_, rfl⟩
            obtain ⟨z, hz⟩ : ∃ q, max y 0 = q := ⟨_, rfl⟩
            rw [hmx, hy, hz] at cK
            have hyw : IntKind.i64.wrap (mx - f) = y := by rw [hy]; exact IntWalk.i64_in _ (by omega)
            have HY := Lib.hid hy
            have HZ := Lib.hid hz
            by_cases a9 : p < t
            · by_cases c9 : y < 0
              · clear HY HZ
                obtain rfl : t = mx := by omega
                subst hy
                obtain rfl : z = 0 := by rw [← hz]; omega
                clear hmx hz
                go_wp2_with fail
                refine wp_region_held_drew (S := (fun w' => w'.heap[w1.heap.size]? = some (.cells #[.int .i64 d, .slice (some ⟨b1, off1, none⟩) m cp] 25) ∧ SOwn encNum w' w.heap.size 3 (some ⟨b1, off1, none⟩) cp xs ∧ SOwn encNum w' w.heap.size 3 (some ⟨b2, off2, none⟩) cv l ∧ w'.cell? ⟨b1, off1 + x, none⟩ = some (.int .i64 t) ∧ w'.cell? ⟨b2, off2 + x, none⟩ = some (.int .i64 p) ∧ w'.cell? ⟨b2, off2 + k, none⟩ = some (.int .i64 0) ∧ Below w.heap.size w w')) (by kernel_rfl) ⟨hP9, hO9.drew, hV9.drew, cA, cV, cK, hB9.drew⟩ (fun hHeld => ?_)
                obtain ⟨hP_0, hO_0, hV_0, hC_0, hD_0, hK_0, hB_0⟩ := id hHeld
                refine wpAnyH_take (i := 0) (oi := _) (v := ?_) rfl (by kernel_rfl) (by kernel_rfl) (by kernel_rfl) (fun _ _ _ h => h) (Or.inl ⟨by rfl, ?_⟩) (by assumption) ?_
                (rotate_left); (focus (intro wv hSw; (obtain ⟨qP, qO, qV, qC, qD, qK, qB⟩ := hSw); obtain ⟨u0_, u1_, _, _, _⟩ := blk2 qP; go_simp; (try with_reducible rfl)))
                try simp only [Act.put, List.getElem_toArray, List.getElem_cons_succ, List.getElem_cons_zero, List.setIfInBounds_toArray, List.set_cons_zero, List.set_cons_succ]
                refine wpAnyH_take (i := 1) (oi := _) (v := ?_) rfl (by kernel_rfl) (by kernel_rfl) (by kernel_rfl) (fun _ _ _ h => h) (Or.inl ⟨by rfl, ?_⟩) (by assumption) ?_
                (rotate_left); (focus (intro wv hSw; (obtain ⟨qP, qO, qV, qC, qD, qK, qB⟩ := hSw); obtain ⟨u0_, u1_, _, _, _⟩ := blk2 qP; go_simp; (try with_reducible rfl)))
                try simp only [Act.put, List.getElem_toArray, List.getElem_cons_succ, List.getElem_cons_zero, List.setIfInBounds_toArray, List.set_cons_zero, List.set_cons_succ]
                refine wpAnyH_take (i := 2) (oi := _) (v := ?_) rfl (by kernel_rfl) (by kernel_rfl) (by kernel_rfl) (fun _ _ _ h => h) (Or.inl ⟨by rfl, ?_⟩) (by assumption) ?_
                (rotate_left); (focus (intro wv hSw; (obtain ⟨qP, qO, qV, qC, qD, qK, qB⟩ := hSw); obtain ⟨u0_, u1_, _, _, _⟩ := blk2 qP; go_simp; (try with_reducible rfl)))
                try simp only [Act.put, List.getElem_toArray, List.getElem_cons_succ, List.getElem_cons_zero, List.setIfInBounds_toArray, List.set_cons_zero, List.set_cons_succ]
                refine wpAnyH_take (i := 3) (oi := _) (v := ?_) rfl (by kernel_rfl) (by kernel_rfl) (by kernel_rfl) (fun _ _ _ h => h) (Or.inl ⟨by rfl, ?_⟩) (by assumption) ?_
                (rotate_left); (focus (intro wv hSw; (obtain ⟨qP, qO, qV, qC, qD, qK, qB⟩ := hSw); obtain ⟨u0_, u1_, _, _, _⟩ := blk2 qP; go_simp; (try with_reducible rfl)))
                try simp only [Act.put, List.getElem_toArray, List.getElem_cons_succ, List.getElem_cons_zero, List.setIfInBounds_toArray, List.set_cons_zero, List.set_cons_succ]
                refine wpAnyH_take (i := 4) (oi := _) (v := ?_) rfl (by kernel_rfl) (by kernel_rfl) (by kernel_rfl) (fun _ _ _ h => h) (Or.inl ⟨by rfl, ?_⟩) (by assumption) ?_
                (rotate_left); (focus (intro wv hSw; (obtain ⟨qP, qO, qV, qC, qD, qK, qB⟩ := hSw); obtain ⟨u0_, u1_, _, _, _⟩ := blk2 qP; go_simp; (try with_reducible rfl)))
                try simp only [Act.put, List.getElem_toArray, List.getElem_cons_succ, List.getElem_cons_zero, List.setIfInBounds_toArray, List.set_cons_zero, List.set_cons_succ]
                refine wpAnyH_take (i := 5) (oi := _) (v := ?_) rfl (by kernel_rfl) (by kernel_rfl) (by kernel_rfl) (fun _ _ _ h => h) (Or.inl ⟨by rfl, ?_⟩) (by assumption) ?_
                (rotate_left); (focus (intro wv hSw; (obtain ⟨qP, qO, qV, qC, qD, qK, qB⟩ := hSw); obtain ⟨u0_, u1_, _, _, _⟩ := blk2 qP; go_simp; (try with_reducible rfl)))
                try simp only [Act.put, List.getElem_toArray, List.getElem_cons_succ, List.getElem_cons_zero, List.setIfInBounds_toArray, List.set_cons_zero, List.set_cons_succ]
                refine wpAnyH_take (i := 6) (oi := _) (v := ?_) rfl (by kernel_rfl) (by kernel_rfl) (by kernel_rfl) (fun _ _ _ h => h) (Or.inl ⟨by rfl, ?_⟩) (by assumption) ?_
                (rotate_left); (focus (intro wv hSw; (obtain ⟨qP, qO, qV, qC, qD, qK, qB⟩ := hSw); obtain ⟨u0_, u1_, _, _, _⟩ := blk2 qP; go_simp; (try with_reducible rfl)))
                try simp only [Act.put, List.getElem_toArray, List.getElem_cons_succ, List.getElem_cons_zero, List.setIfInBounds_toArray, List.set_cons_zero, List.set_cons_succ]
                refine wpAnyH_take (i := 7) (oi := _) (v := ?_) rfl (by kernel_rfl) (by kernel_rfl) (by kernel_rfl) (fun _ _ _ h => h) (Or.inl ⟨by rfl, ?_⟩) (by assumption) ?_
                (rotate_left); (focus (intro wv hSw; (obtain ⟨qP, qO, qV, qC, qD, qK, qB⟩ := hSw); obtain ⟨u0_, u1_, _, _, _⟩ := blk2 qP; go_simp; (try with_reducible rfl)))
                try simp only [Act.put, List.getElem_toArray, List.getElem_cons_succ, List.getElem_cons_zero, List.setIfInBounds_toArray, List.set_cons_zero, List.set_cons_succ]
                refine wpAnyH_take (i := 8) (oi := _) (v := ?_) rfl (by kernel_rfl) (by kernel_rfl) (by kernel_rfl) (fun _ _ _ h => h) (Or.inl ⟨by rfl, ?_⟩) (by assumption) ?_
                (rotate_left); (focus (intro wv hSw; (obtain ⟨qP, qO, qV, qC, qD, qK, qB⟩ := hSw); obtain ⟨u0_, u1_, _, _, _⟩ := blk2 qP; go_simp; (try with_reducible rfl)))
                try simp only [Act.put, List.getElem_toArray, List.getElem_cons_succ, List.getElem_cons_zero, List.setIfInBounds_toArray, List.set_cons_zero, List.set_cons_succ]
                refine wpAnyH_take (i := 9) (oi := _) (v := ?_) rfl (by kernel_rfl) (by kernel_rfl) (by kernel_rfl) (fun _ _ _ h => h) (Or.inl ⟨by rfl, ?_⟩) (by assumption) ?_
                (rotate_left); (focus (intro wv hSw; (obtain ⟨qP, qO, qV, qC, qD, qK, qB⟩ := hSw); obtain ⟨u0_, u1_, _, _, _⟩ := blk2 qP; go_simp; (try with_reducible rfl)))
                try simp only [Act.put, List.getElem_toArray, List.getElem_cons_succ, List.getElem_cons_zero, List.setIfInBounds_toArray, List.set_cons_zero, List.set_cons_succ]
                refine wpAnyH_take (i := 10) (oi := _) (v := ?_) rfl (by kernel_rfl) (by kernel_rfl) (by kernel_rfl) (fun _ _ _ h => h) (Or.inl ⟨by rfl, ?_⟩) (by assumption) ?_
                (rotate_left); (focus (intro wv hSw; (obtain ⟨qP, qO, qV, qC, qD, qK, qB⟩ := hSw); obtain ⟨u0_, u1_, _, _, _⟩ := blk2 qP; go_simp; (try with_reducible rfl)))
                try simp only [Act.put, List.getElem_toArray, List.getElem_cons_succ, List.getElem_cons_zero, List.setIfInBounds_toArray, List.set_cons_zero, List.set_cons_succ]
                refine wpAnyH_take (i := 11) (oi := _) (v := ?_) rfl (by kernel_rfl) (by kernel_rfl) (by kernel_rfl) (fun _ _ _ h => h) (Or.inl ⟨by rfl, ?_⟩) (by assumption) ?_
                (rotate_left); (focus (intro wv hSw; (obtain ⟨qP, qO, qV, qC, qD, qK, qB⟩ := hSw); obtain ⟨u0_, u1_, _, _, _⟩ := blk2 qP; go_simp; (try with_reducible rfl)))
                try simp only [Act.put, List.getElem_toArray, List.getElem_cons_succ, List.getElem_cons_zero, List.setIfInBounds_toArray, List.set_cons_zero, List.set_cons_succ]
                refine wpAnyH_take (i := 12) (oi := _) (v := ?_) rfl (by kernel_rfl) (by kernel_rfl) (by kernel_rfl) (fun _ _ _ h => h) (Or.inl ⟨by rfl, ?_⟩) (by assumption) ?_
                (rotate_left); (focus (intro wv hSw; (obtain ⟨qP, qO, qV, qC, qD, qK, qB⟩ := hSw); obtain ⟨u0_, u1_, _, _, _⟩ := blk2 qP; go_simp; (try with_reducible rfl)))
                try simp only [Act.put, List.getElem_toArray, List.getElem_cons_succ, List.getElem_cons_zero, List.setIfInBounds_toArray, List.set_cons_zero, List.set_cons_succ]
                refine wpAnyH_take (i := 13) (oi := _) (v := ?_) rfl (by kernel_rfl) (by kernel_rfl) (by kernel_rfl) (fun _ _ _ h => h) (Or.inl ⟨by rfl, ?_⟩) (by assumption) ?_
                (rotate_left); (focus (intro wv hSw; (obtain ⟨qP, qO, qV, qC, qD, qK, qB⟩ := hSw); obtain ⟨u0_, u1_, _, _, _⟩ := blk2 qP; go_simp; (try with_reducible rfl)))
                try simp only [Act.put, List.getElem_toArray, List.getElem_cons_succ, List.getElem_cons_zero, List.setIfInBounds_toArray, List.set_cons_zero, List.set_cons_succ]
                refine wpAnyH_done (by kernel_rfl) ?_ _
                go_wp2_with fail
                go_roundw
                case rel => exact ⟨k + 1, by go_num, by omega, hP_0, hO_0, hV_0, hB_0⟩
                case measure => simp [intOf]; omega
              · clear HY HZ
                obtain rfl : t = mx := by omega
                subst hy
                obtain rfl : z = t - f := by rw [← hz]; omega
                clear hmx hz
                go_wp2_with fail
                refine wp_region_held_drew (S := (fun w' => w'.heap[w1.heap.size]? = some (.cells #[.int .i64 d, .slice (some ⟨b1, off1, none⟩) m cp] 25) ∧ SOwn encNum w' w.heap.size 3 (some ⟨b1, off1, none⟩) cp xs ∧ SOwn encNum w' w.heap.size 3 (some ⟨b2, off2, none⟩) cv l ∧ w'.cell? ⟨b1, off1 + x, none⟩ = some (.int .i64 t) ∧ w'.cell? ⟨b2, off2 + x, none⟩ = some (.int .i64 p) ∧ w'.cell? ⟨b2, off2 + k, none⟩ = some (.int .i64 (t - f)) ∧ Below w.heap.size w w')) (by kernel_rfl) ⟨hP9, hO9.drew, hV9.drew, cA, cV, cK, hB9.drew⟩ (fun hHeld => ?_)
                obtain ⟨hP_0, hO_0, hV_0, hC_0, hD_0, hK_0, hB_0⟩ := id hHeld
                refine wpAnyH_take (i := 0) (oi := _) (v := ?_) rfl (by kernel_rfl) (by kernel_rfl) (by kernel_rfl) (fun _ _ _ h => h) (Or.inl ⟨by rfl, ?_⟩) (by assumption) ?_
                (rotate_left); (focus (intro wv hSw; (obtain ⟨qP, qO, qV, qC, qD, qK, qB⟩ := hSw); obtain ⟨u0_, u1_, _, _, _⟩ := blk2 qP; go_simp; (try with_reducible rfl)))
                try simp only [Act.put, List.getElem_toArray, List.getElem_cons_succ, List.getElem_cons_zero, List.setIfInBounds_toArray, List.set_cons_zero, List.set_cons_succ]
                refine wpAnyH_take (i := 1) (oi := _) (v := ?_) rfl (by kernel_rfl) (by kernel_rfl) (by kernel_rfl) (fun _ _ _ h => h) (Or.inl ⟨by rfl, ?_⟩) (by assumption) ?_
                (rotate_left); (focus (intro wv hSw; (obtain ⟨qP, qO, qV, qC, qD, qK, qB⟩ := hSw); obtain ⟨u0_, u1_, _, _, _⟩ := blk2 qP; go_simp; (try with_reducible rfl)))
                try simp only [Act.put, List.getElem_toArray, List.getElem_cons_succ, List.getElem_cons_zero, List.setIfInBounds_toArray, List.set_cons_zero, List.set_cons_succ]
                refine wpAnyH_take (i := 2) (oi := _) (v := ?_) rfl (by kernel_rfl) (by kernel_rfl) (by kernel_rfl) (fun _ _ _ h => h) (Or.inl ⟨by rfl, ?_⟩) (by assumption) ?_
                (rotate_left); (focus (intro wv hSw; (obtain ⟨qP, qO, qV, qC, qD, qK, qB⟩ := hSw); obtain ⟨u0_, u1_, _, _, _⟩ := blk2 qP; go_simp; (try with_reducible rfl)))
                try simp only [Act.put, List.getElem_toArray, List.getElem_cons_succ, List.getElem_cons_zero, List.setIfInBounds_toArray, List.set_cons_zero, List.set_cons_succ]
                refine wpAnyH_take (i := 3) (oi := _) (v := ?_) rfl (by kernel_rfl) (by kernel_rfl) (by kernel_rfl) (fun _ _ _ h => h) (Or.inl ⟨by rfl, ?_⟩) (by assumption) ?_
                (rotate_left); (focus (intro wv hSw; (obtain ⟨qP, qO, qV, qC, qD, qK, qB⟩ := hSw); obtain ⟨u0_, u1_, _, _, _⟩ := blk2 qP; go_simp; (try with_reducible rfl)))
                try simp only [Act.put, List.getElem_toArray, List.getElem_cons_succ, List.getElem_cons_zero, List.setIfInBounds_toArray, List.set_cons_zero, List.set_cons_succ]
                refine wpAnyH_take (i := 4) (oi := _) (v := ?_) rfl (by kernel_rfl) (by kernel_rfl) (by kernel_rfl) (fun _ _ _ h => h) (Or.inl ⟨by rfl, ?_⟩) (by assumption) ?_
                (rotate_left); (focus (intro wv hSw; (obtain ⟨qP, qO, qV, qC, qD, qK, qB⟩ := hSw); obtain ⟨u0_, u1_, _, _, _⟩ := blk2 qP; go_simp; (try with_reducible rfl)))
                try simp only [Act.put, List.getElem_toArray, List.getElem_cons_succ, List.getElem_cons_zero, List.setIfInBounds_toArray, List.set_cons_zero, List.set_cons_succ]
                refine wpAnyH_take (i := 5) (oi := _) (v := ?_) rfl (by kernel_rfl) (by kernel_rfl) (by kernel_rfl) (fun _ _ _ h => h) (Or.inl ⟨by rfl, ?_⟩) (by assumption) ?_
                (rotate_left); (focus (intro wv hSw; (obtain ⟨qP, qO, qV, qC, qD, qK, qB⟩ := hSw); obtain ⟨u0_, u1_, _, _, _⟩ := blk2 qP; go_simp; (try with_reducible rfl)))
                try simp only [Act.put, List.getElem_toArray, List.getElem_cons_succ, List.getElem_cons_zero, List.setIfInBounds_toArray, List.set_cons_zero, List.set_cons_succ]
                refine wpAnyH_take (i := 6) (oi := _) (v := ?_) rfl (by kernel_rfl) (by kernel_rfl) (by kernel_rfl) (fun _ _ _ h => h) (Or.inl ⟨by rfl, ?_⟩) (by assumption) ?_
                (rotate_left); (focus (intro wv hSw; (obtain ⟨qP, qO, qV, qC, qD, qK, qB⟩ := hSw); obtain ⟨u0_, u1_, _, _, _⟩ := blk2 qP; go_simp; (try with_reducible rfl)))
                try simp only [Act.put, List.getElem_toArray, List.getElem_cons_succ, List.getElem_cons_zero, List.setIfInBounds_toArray, List.set_cons_zero, List.set_cons_succ]
                refine wpAnyH_take (i := 7) (oi := _) (v := ?_) rfl (by kernel_rfl) (by kernel_rfl) (by kernel_rfl) (fun _ _ _ h => h) (Or.inl ⟨by rfl, ?_⟩) (by assumption) ?_
                (rotate_left); (focus (intro wv hSw; (obtain ⟨qP, qO, qV, qC, qD, qK, qB⟩ := hSw); obtain ⟨u0_, u1_, _, _, _⟩ := blk2 qP; go_simp; (try with_reducible rfl)))
                try simp only [Act.put, List.getElem_toArray, List.getElem_cons_succ, List.getElem_cons_zero, List.setIfInBounds_toArray, List.set_cons_zero, List.set_cons_succ]
                refine wpAnyH_take (i := 8) (oi := _) (v := ?_) rfl (by kernel_rfl) (by kernel_rfl) (by kernel_rfl) (fun _ _ _ h => h) (Or.inl ⟨by rfl, ?_⟩) (by assumption) ?_
                (rotate_left); (focus (intro wv hSw; (obtain ⟨qP, qO, qV, qC, qD, qK, qB⟩ := hSw); obtain ⟨u0_, u1_, _, _, _⟩ := blk2 qP; go_simp; (try with_reducible rfl)))
                try simp only [Act.put, List.getElem_toArray, List.getElem_cons_succ, List.getElem_cons_zero, List.setIfInBounds_toArray, List.set_cons_zero, List.set_cons_succ]
                refine wpAnyH_take (i := 9) (oi := _) (v := ?_) rfl (by kernel_rfl) (by kernel_rfl) (by kernel_rfl) (fun _ _ _ h => h) (Or.inl ⟨by rfl, ?_⟩) (by assumption) ?_
                (rotate_left); (focus (intro wv hSw; (obtain ⟨qP, qO, qV, qC, qD, qK, qB⟩ := hSw); obtain ⟨u0_, u1_, _, _, _⟩ := blk2 qP; go_simp; (try with_reducible rfl)))
                try simp only [Act.put, List.getElem_toArray, List.getElem_cons_succ, List.getElem_cons_zero, List.setIfInBounds_toArray, List.set_cons_zero, List.set_cons_succ]
                refine wpAnyH_take (i := 10) (oi := _) (v := ?_) rfl (by kernel_rfl) (by kernel_rfl) (by kernel_rfl) (fun _ _ _ h => h) (Or.inl ⟨by rfl, ?_⟩) (by assumption) ?_
                (rotate_left); (focus (intro wv hSw; (obtain ⟨qP, qO, qV, qC, qD, qK, qB⟩ := hSw); obtain ⟨u0_, u1_, _, _, _⟩ := blk2 qP; go_simp; (try with_reducible rfl)))
                try simp only [Act.put, List.getElem_toArray, List.getElem_cons_succ, List.getElem_cons_zero, List.setIfInBounds_toArray, List.set_cons_zero, List.set_cons_succ]
                refine wpAnyH_take (i := 11) (oi := _) (v := ?_) rfl (by kernel_rfl) (by kernel_rfl) (by kernel_rfl) (fun _ _ _ h => h) (Or.inl ⟨by rfl, ?_⟩) (by assumption) ?_
                (rotate_left); (focus (intro wv hSw; (obtain ⟨qP, qO, qV, qC, qD, qK, qB⟩ := hSw); obtain ⟨u0_, u1_, _, _, _⟩ := blk2 qP; go_simp; (try with_reducible rfl)))
                try simp only [Act.put, List.getElem_toArray, List.getElem_cons_succ, List.getElem_cons_zero, List.setIfInBounds_toArray, List.set_cons_zero, List.set_cons_succ]
                refine wpAnyH_take (i := 12) (oi := _) (v := ?_) rfl (by kernel_rfl) (by kernel_rfl) (by kernel_rfl) (fun _ _ _ h => h) (Or.inl ⟨by rfl, ?_⟩) (by assumption) ?_
                (rotate_left); (focus (intro wv hSw; (obtain ⟨qP, qO, qV, qC, qD, qK, qB⟩ := hSw); obtain ⟨u0_, u1_, _, _, _⟩ := blk2 qP; go_simp; (try with_reducible rfl)))
                try simp only [Act.put, List.getElem_toArray, List.getElem_cons_succ, List.getElem_cons_zero, List.setIfInBounds_toArray, List.set_cons_zero, List.set_cons_succ]
                refine wpAnyH_take (i := 13) (oi := _) (v := ?_) rfl (by kernel_rfl) (by kernel_rfl) (by kernel_rfl) (fun _ _ _ h => h) (Or.inl ⟨by rfl, ?_⟩) (by assumption) ?_
                (rotate_left); (focus (intro wv hSw; (obtain ⟨qP, qO, qV, qC, qD, qK, qB⟩ := hSw); obtain ⟨u0_, u1_, _, _, _⟩ := blk2 qP; go_simp; (try with_reducible rfl)))
                try simp only [Act.put, List.getElem_toArray, List.getElem_cons_succ, List.getElem_cons_zero, List.setIfInBounds_toArray, List.set_cons_zero, List.set_cons_succ]
                refine wpAnyH_done (by kernel_rfl) ?_ _
                go_wp2_with fail
                go_roundw
                case rel => exact ⟨k + 1, by go_num, by omega, hP_0, hO_0, hV_0, hB_0⟩
                case measure => simp [intOf]; omega
            · by_cases c9 : y < 0
              · clear HY HZ
                obtain rfl : p = mx := by omega
                subst hy
                obtain rfl : z = 0 := by rw [← hz]; omega
                clear hmx hz
                go_wp2_with fail
                refine wp_region_held_drew (S := (fun w' => w'.heap[w1.heap.size]? = some (.cells #[.int .i64 d, .slice (some ⟨b1, off1, none⟩) m cp] 25) ∧ SOwn encNum w' w.heap.size 3 (some ⟨b1, off1, none⟩) cp xs ∧ SOwn encNum w' w.heap.size 3 (some ⟨b2, off2, none⟩) cv l ∧ w'.cell? ⟨b1, off1 + x, none⟩ = some (.int .i64 t) ∧ w'.cell? ⟨b2, off2 + x, none⟩ = some (.int .i64 p) ∧ w'.cell? ⟨b2, off2 + k, none⟩ = some (.int .i64 0) ∧ Below w.heap.size w w')) (by kernel_rfl) ⟨hP9, hO9.drew, hV9.drew, cA, cV, cK, hB9.drew⟩ (fun hHeld => ?_)
                obtain ⟨hP_0, hO_0, hV_0, hC_0, hD_0, hK_0, hB_0⟩ := id hHeld
                refine wpAnyH_take (i := 0) (oi := _) (v := ?_) rfl (by kernel_rfl) (by kernel_rfl) (by kernel_rfl) (fun _ _ _ h => h) (Or.inl ⟨by rfl, ?_⟩) (by assumption) ?_
                (rotate_left); (focus (intro wv hSw; (obtain ⟨qP, qO, qV, qC, qD, qK, qB⟩ := hSw); obtain ⟨u0_, u1_, _, _, _⟩ := blk2 qP; go_simp; (try with_reducible rfl)))
                try simp only [Act.put, List.getElem_toArray, List.getElem_cons_succ, List.getElem_cons_zero, List.setIfInBounds_toArray, List.set_cons_zero, List.set_cons_succ]
                refine wpAnyH_take (i := 1) (oi := _) (v := ?_) rfl (by kernel_rfl) (by kernel_rfl) (by kernel_rfl) (fun _ _ _ h => h) (Or.inl ⟨by rfl, ?_⟩) (by assumption) ?_
                (rotate_left); (focus (intro wv hSw; (obtain ⟨qP, qO, qV, qC, qD, qK, qB⟩ := hSw); obtain ⟨u0_, u1_, _, _, _⟩ := blk2 qP; go_simp; (try with_reducible rfl)))
                try simp only [Act.put, List.getElem_toArray, List.getElem_cons_succ, List.getElem_cons_zero, List.setIfInBounds_toArray, List.set_cons_zero, List.set_cons_succ]
                refine wpAnyH_take (i := 2) (oi := _) (v := ?_) rfl (by kernel_rfl) (by kernel_rfl) (by kernel_rfl) (fun _ _ _ h => h) (Or.inl ⟨by rfl, ?_⟩) (by assumption) ?_
                (rotate_left); (focus (intro wv hSw; (obtain ⟨qP, qO, qV, qC, qD, qK, qB⟩ := hSw); obtain ⟨u0_, u1_, _, _, _⟩ := blk2 qP; go_simp; (try with_reducible rfl)))
                try simp only [Act.put, List.getElem_toArray, List.getElem_cons_succ, List.getElem_cons_zero, List.setIfInBounds_toArray, List.set_cons_zero, List.set_cons_succ]
                refine wpAnyH_take (i := 3) (oi := _) (v := ?_) rfl (by kernel_rfl) (by kernel_rfl) (by kernel_rfl) (fun _ _ _ h => h) (Or.inl ⟨by rfl, ?_⟩) (by assumption) ?_
                (rotate_left); (focus (intro wv hSw; (obtain ⟨qP, qO, qV, qC, qD, qK, qB⟩ := hSw); obtain ⟨u0_, u1_, _, _, _⟩ := blk2 qP; go_simp; (try with_reducible rfl)))
                try simp only [Act.put, List.getElem_toArray, List.getElem_cons_succ, List.getElem_cons_zero, List.setIfInBounds_toArray, List.set_cons_zero, List.set_cons_succ]
                refine wpAnyH_take (i := 4) (oi := _) (v := ?_) rfl (by kernel_rfl) (by kernel_rfl) (by kernel_rfl) (fun _ _ _ h => h) (Or.inl ⟨by rfl, ?_⟩) (by assumption) ?_
                (rotate_left); (focus (intro wv hSw; (obtain ⟨qP, qO, qV, qC, qD, qK, qB⟩ := hSw); obtain ⟨u0_, u1_, _, _, _⟩ := blk2 qP; go_simp; (try with_reducible rfl)))
                try simp only [Act.put, List.getElem_toArray, List.getElem_cons_succ, List.getElem_cons_zero, List.setIfInBounds_toArray, List.set_cons_zero, List.set_cons_succ]
                refine wpAnyH_take (i := 5) (oi := _) (v := ?_) rfl (by kernel_rfl) (by kernel_rfl) (by kernel_rfl) (fun _ _ _ h => h) (Or.inl ⟨by rfl, ?_⟩) (by assumption) ?_
                (rotate_left); (focus (intro wv hSw; (obtain ⟨qP, qO, qV, qC, qD, qK, qB⟩ := hSw); obtain ⟨u0_, u1_, _, _, _⟩ := blk2 qP; go_simp; (try with_reducible rfl)))
                try simp only [Act.put, List.getElem_toArray, List.getElem_cons_succ, List.getElem_cons_zero, List.setIfInBounds_toArray, List.set_cons_zero, List.set_cons_succ]
                refine wpAnyH_take (i := 6) (oi := _) (v := ?_) rfl (by kernel_rfl) (by kernel_rfl) (by kernel_rfl) (fun _ _ _ h => h) (Or.inl ⟨by rfl, ?_⟩) (by assumption) ?_
                (rotate_left); (focus (intro wv hSw; (obtain ⟨qP, qO, qV, qC, qD, qK, qB⟩ := hSw); obtain ⟨u0_, u1_, _, _, _⟩ := blk2 qP; go_simp; (try with_reducible rfl)))
                try simp only [Act.put, List.getElem_toArray, List.getElem_cons_succ, List.getElem_cons_zero, List.setIfInBounds_toArray, List.set_cons_zero, List.set_cons_succ]
                refine wpAnyH_take (i := 7) (oi := _) (v := ?_) rfl (by kernel_rfl) (by kernel_rfl) (by kernel_rfl) (fun _ _ _ h => h) (Or.inl ⟨by rfl, ?_⟩) (by assumption) ?_
                (rotate_left); (focus (intro wv hSw; (obtain ⟨qP, qO, qV, qC, qD, qK, qB⟩ := hSw); obtain ⟨u0_, u1_, _, _, _⟩ := blk2 qP; go_simp; (try with_reducible rfl)))
                try simp only [Act.put, List.getElem_toArray, List.getElem_cons_succ, List.getElem_cons_zero, List.setIfInBounds_toArray, List.set_cons_zero, List.set_cons_succ]
                refine wpAnyH_take (i := 8) (oi := _) (v := ?_) rfl (by kernel_rfl) (by kernel_rfl) (by kernel_rfl) (fun _ _ _ h => h) (Or.inl ⟨by rfl, ?_⟩) (by assumption) ?_
                (rotate_left); (focus (intro wv hSw; (obtain ⟨qP, qO, qV, qC, qD, qK, qB⟩ := hSw); obtain ⟨u0_, u1_, _, _, _⟩ := blk2 qP; go_simp; (try with_reducible rfl)))
                try simp only [Act.put, List.getElem_toArray, List.getElem_cons_succ, List.getElem_cons_zero, List.setIfInBounds_toArray, List.set_cons_zero, List.set_cons_succ]
                refine wpAnyH_take (i := 9) (oi := _) (v := ?_) rfl (by kernel_rfl) (by kernel_rfl) (by kernel_rfl) (fun _ _ _ h => h) (Or.inl ⟨by rfl, ?_⟩) (by assumption) ?_
                (rotate_left); (focus (intro wv hSw; (obtain ⟨qP, qO, qV, qC, qD, qK, qB⟩ := hSw); obtain ⟨u0_, u1_, _, _, _⟩ := blk2 qP; go_simp; (try with_reducible rfl)))
                try simp only [Act.put, List.getElem_toArray, List.getElem_cons_succ, List.getElem_cons_zero, List.setIfInBounds_toArray, List.set_cons_zero, List.set_cons_succ]
                refine wpAnyH_take (i := 10) (oi := _) (v := ?_) rfl (by kernel_rfl) (by kernel_rfl) (by kernel_rfl) (fun _ _ _ h => h) (Or.inl ⟨by rfl, ?_⟩) (by assumption) ?_
                (rotate_left); (focus (intro wv hSw; (obtain ⟨qP, qO, qV, qC, qD, qK, qB⟩ := hSw); obtain ⟨u0_, u1_, _, _, _⟩ := blk2 qP; go_simp; (try with_reducible rfl)))
                try simp only [Act.put, List.getElem_toArray, List.getElem_cons_succ, List.getElem_cons_zero, List.setIfInBounds_toArray, List.set_cons_zero, List.set_cons_succ]
                refine wpAnyH_take (i := 11) (oi := _) (v := ?_) rfl (by kernel_rfl) (by kernel_rfl) (by kernel_rfl) (fun _ _ _ h => h) (Or.inl ⟨by rfl, ?_⟩) (by assumption) ?_
                (rotate_left); (focus (intro wv hSw; (obtain ⟨qP, qO, qV, qC, qD, qK, qB⟩ := hSw); obtain ⟨u0_, u1_, _, _, _⟩ := blk2 qP; go_simp; (try with_reducible rfl)))
                try simp only [Act.put, List.getElem_toArray, List.getElem_cons_succ, List.getElem_cons_zero, List.setIfInBounds_toArray, List.set_cons_zero, List.set_cons_succ]
                refine wpAnyH_take (i := 12) (oi := _) (v := ?_) rfl (by kernel_rfl) (by kernel_rfl) (by kernel_rfl) (fun _ _ _ h => h) (Or.inl ⟨by rfl, ?_⟩) (by assumption) ?_
                (rotate_left); (focus (intro wv hSw; (obtain ⟨qP, qO, qV, qC, qD, qK, qB⟩ := hSw); obtain ⟨u0_, u1_, _, _, _⟩ := blk2 qP; go_simp; (try with_reducible rfl)))
                try simp only [Act.put, List.getElem_toArray, List.getElem_cons_succ, List.getElem_cons_zero, List.setIfInBounds_toArray, List.set_cons_zero, List.set_cons_succ]
                refine wpAnyH_take (i := 13) (oi := _) (v := ?_) rfl (by kernel_rfl) (by kernel_rfl) (by kernel_rfl) (fun _ _ _ h => h) (Or.inl ⟨by rfl, ?_⟩) (by assumption) ?_
                (rotate_left); (focus (intro wv hSw; (obtain ⟨qP, qO, qV, qC, qD, qK, qB⟩ := hSw); obtain ⟨u0_, u1_, _, _, _⟩ := blk2 qP; go_simp; (try with_reducible rfl)))
                try simp only [Act.put, List.getElem_toArray, List.getElem_cons_succ, List.getElem_cons_zero, List.setIfInBounds_toArray, List.set_cons_zero, List.set_cons_succ]
                refine wpAnyH_done (by kernel_rfl) ?_ _
                go_wp2_with fail
                go_roundw
                case rel => exact ⟨k + 1, by go_num, by omega, hP_0, hO_0, hV_0, hB_0⟩
                case measure => simp [intOf]; omega
              · clear HY HZ
                obtain rfl : p = mx := by omega
                subst hy
                obtain rfl : z = p - f := by rw [← hz]; omega
                clear hmx hz
                go_wp2_with fail
                refine wp_region_held_drew (S := (fun w' => w'.heap[w1.heap.size]? = some (.cells #[.int .i64 d, .slice (some ⟨b1, off1, none⟩) m cp] 25) ∧ SOwn encNum w' w.heap.size 3 (some ⟨b1, off1, none⟩) cp xs ∧ SOwn encNum w' w.heap.size 3 (some ⟨b2, off2, none⟩) cv l ∧ w'.cell? ⟨b1, off1 + x, none⟩ = some (.int .i64 t) ∧ w'.cell? ⟨b2, off2 + x, none⟩ = some (.int .i64 p) ∧ w'.cell? ⟨b2, off2 + k, none⟩ = some (.int .i64 (p - f)) ∧ Below w.heap.size w w')) (by kernel_rfl) ⟨hP9, hO9.drew, hV9.drew, cA, cV, cK, hB9.drew⟩ (fun hHeld => ?_)
                obtain ⟨hP_0, hO_0, hV_0, hC_0, hD_0, hK_0, hB_0⟩ := id hHeld
                refine wpAnyH_take (i := 0) (oi := _) (v := ?_) rfl (by kernel_rfl) (by kernel_rfl) (by kernel_rfl) (fun _ _ _ h => h) (Or.inl ⟨by rfl, ?_⟩) (by assumption) ?_
                (rotate_left); (focus (intro wv hSw; (obtain ⟨qP, qO, qV, qC, qD, qK, qB⟩ := hSw); obtain ⟨u0_, u1_, _, _, _⟩ := blk2 qP; go_simp; (try with_reducible rfl)))
                try simp only [Act.put, List.getElem_toArray, List.getElem_cons_succ, List.getElem_cons_zero, List.setIfInBounds_toArray, List.set_cons_zero, List.set_cons_succ]
                refine wpAnyH_take (i := 1) (oi := _) (v := ?_) rfl (by kernel_rfl) (by kernel_rfl) (by kernel_rfl) (fun _ _ _ h => h) (Or.inl ⟨by rfl, ?_⟩) (by assumption) ?_
                (rotate_left); (focus (intro wv hSw; (obtain ⟨qP, qO, qV, qC, qD, qK, qB⟩ := hSw); obtain ⟨u0_, u1_, _, _, _⟩ := blk2 qP; go_simp; (try with_reducible rfl)))
                try simp only [Act.put, List.getElem_toArray, List.getElem_cons_succ, List.getElem_cons_zero, List.setIfInBounds_toArray, List.set_cons_zero, List.set_cons_succ]
                refine wpAnyH_take (i := 2) (oi := _) (v := ?_) rfl (by kernel_rfl) (by kernel_rfl) (by kernel_rfl) (fun _ _ _ h => h) (Or.inl ⟨by rfl, ?_⟩) (by assumption) ?_
                (rotate_left); (focus (intro wv hSw; (obtain ⟨qP, qO, qV, qC, qD, qK, qB⟩ := hSw); obtain ⟨u0_, u1_, _, _, _⟩ := blk2 qP; go_simp; (try with_reducible rfl)))
                try simp only [Act.put, List.getElem_toArray, List.getElem_cons_succ, List.getElem_cons_zero, List.setIfInBounds_toArray, List.set_cons_zero, List.set_cons_succ]
                refine wpAnyH_take (i := 3) (oi := _) (v := ?_) rfl (by kernel_rfl) (by kernel_rfl) (by kernel_rfl) (fun _ _ _ h => h) (Or.inl ⟨by rfl, ?_⟩) (by assumption) ?_
                (rotate_left); (focus (intro wv hSw; (obtain ⟨qP, qO, qV, qC, qD, qK, qB⟩ := hSw); obtain ⟨u0_, u1_, _, _, _⟩ := blk2 qP; go_simp; (try with_reducible rfl)))
                try simp only [Act.put, List.getElem_toArray, List.getElem_cons_succ, List.getElem_cons_zero, List.setIfInBounds_toArray, List.set_cons_zero, List.set_cons_succ]
                refine wpAnyH_take (i := 4) (oi := _) (v := ?_) rfl (by kernel_rfl) (by kernel_rfl) (by kernel_rfl) (fun _ _ _ h => h) (Or.inl ⟨by rfl, ?_⟩) (by assumption) ?_
                (rotate_left); (focus (intro wv hSw; (obtain ⟨qP, qO, qV, qC, qD, qK, qB⟩ := hSw); obtain ⟨u0_, u1_, _, _, _⟩ := blk2 qP; go_simp; (try with_reducible rfl)))
                try simp only [Act.put, List.getElem_toArray, List.getElem_cons_succ, List.getElem_cons_zero, List.setIfInBounds_toArray, List.set_cons_zero, List.set_cons_succ]
                refine wpAnyH_take (i := 5) (oi := _) (v := ?_) rfl (by kernel_rfl) (by kernel_rfl) (by kernel_rfl) (fun _ _ _ h => h) (Or.inl ⟨by rfl, ?_⟩) (by assumption) ?_
                (rotate_left); (focus (intro wv hSw; (obtain ⟨qP, qO, qV, qC, qD, qK, qB⟩ := hSw); obtain ⟨u0_, u1_, _, _, _⟩ := blk2 qP; go_simp; (try with_reducible rfl)))
                try simp only [Act.put, List.getElem_toArray, List.getElem_cons_succ, List.getElem_cons_zero, List.setIfInBounds_toArray, List.set_cons_zero, List.set_cons_succ]
                refine wpAnyH_take (i := 6) (oi := _) (v := ?_) rfl (by kernel_rfl) (by kernel_rfl) (by kernel_rfl) (fun _ _ _ h => h) (Or.inl ⟨by rfl, ?_⟩) (by assumption) ?_
                (rotate_left); (focus (intro wv hSw; (obtain ⟨qP, qO, qV, qC, qD, qK, qB⟩ := hSw); obtain ⟨u0_, u1_, _, _, _⟩ := blk2 qP; go_simp; (try with_reducible rfl)))
                try simp only [Act.put, List.getElem_toArray, List.getElem_cons_succ, List.getElem_cons_zero, List.setIfInBounds_toArray, List.set_cons_zero, List.set_cons_succ]
                refine wpAnyH_take (i := 7) (oi := _) (v := ?_) rfl (by kernel_rfl) (by kernel_rfl) (by kernel_rfl) (fun _ _ _ h => h) (Or.inl ⟨by rfl, ?_⟩) (by assumption) ?_
                (rotate_left); (focus (intro wv hSw; (obtain ⟨qP, qO, qV, qC, qD, qK, qB⟩ := hSw); obtain ⟨u0_, u1_, _, _, _⟩ := blk2 qP; go_simp; (try with_reducible rfl)))
                try simp only [Act.put, List.getElem_toArray, List.getElem_cons_succ, List.getElem_cons_zero, List.setIfInBounds_toArray, List.set_cons_zero, List.set_cons_succ]
                refine wpAnyH_take (i := 8) (oi := _) (v := ?_) rfl (by kernel_rfl) (by kernel_rfl) (by kernel_rfl) (fun _ _ _ h => h) (Or.inl ⟨by rfl, ?_⟩) (by assumption) ?_
                (rotate_left); (focus (intro wv hSw; (obtain ⟨qP, qO, qV, qC, qD, qK, qB⟩ := hSw); obtain ⟨u0_, u1_, _, _, _⟩ := blk2 qP; go_simp; (try with_reducible rfl)))
                try simp only [Act.put, List.getElem_toArray, List.getElem_cons_succ, List.getElem_cons_zero, List.setIfInBounds_toArray, List.set_cons_zero, List.set_cons_succ]
                refine wpAnyH_take (i := 9) (oi := _) (v := ?_) rfl (by kernel_rfl) (by kernel_rfl) (by kernel_rfl) (fun _ _ _ h => h) (Or.inl ⟨by rfl, ?_⟩) (by assumption) ?_
                (rotate_left); (focus (intro wv hSw; (obtain ⟨qP, qO, qV, qC, qD, qK, qB⟩ := hSw); obtain ⟨u0_, u1_, _, _, _⟩ := blk2 qP; go_simp; (try with_reducible rfl)))
                try simp only [Act.put, List.getElem_toArray, List.getElem_cons_succ, List.getElem_cons_zero, List.setIfInBounds_toArray, List.set_cons_zero, List.set_cons_succ]
                refine wpAnyH_take (i := 10) (oi := _) (v := ?_) rfl (by kernel_rfl) (by kernel_rfl) (by kernel_rfl) (fun _ _ _ h => h) (Or.inl ⟨by rfl, ?_⟩) (by assumption) ?_
                (rotate_left); (focus (intro wv hSw; (obtain ⟨qP, qO, qV, qC, qD, qK, qB⟩ := hSw); obtain ⟨u0_, u1_, _, _, _⟩ := blk2 qP; go_simp; (try with_reducible rfl)))
                try simp only [Act.put, List.getElem_toArray, List.getElem_cons_succ, List.getElem_cons_zero, List.setIfInBounds_toArray, List.set_cons_zero, List.set_cons_succ]
                refine wpAnyH_take (i := 11) (oi := _) (v := ?_) rfl (by kernel_rfl) (by kernel_rfl) (by kernel_rfl) (fun _ _ _ h => h) (Or.inl ⟨by rfl, ?_⟩) (by assumption) ?_
                (rotate_left); (focus (intro wv hSw; (obtain ⟨qP, qO, qV, qC, qD, qK, qB⟩ := hSw); obtain ⟨u0_, u1_, _, _, _⟩ := blk2 qP; go_simp; (try with_reducible rfl)))
                try simp only [Act.put, List.getElem_toArray, List.getElem_cons_succ, List.getElem_cons_zero, List.setIfInBounds_toArray, List.set_cons_zero, List.set_cons_succ]
                refine wpAnyH_take (i := 12) (oi := _) (v := ?_) rfl (by kernel_rfl) (by kernel_rfl) (by kernel_rfl) (fun _ _ _ h => h) (Or.inl ⟨by rfl, ?_⟩) (by assumption) ?_
                (rotate_left); (focus (intro wv hSw; (obtain ⟨qP, qO, qV, qC, qD, qK, qB⟩ := hSw); obtain ⟨u0_, u1_, _, _, _⟩ := blk2 qP; go_simp; (try with_reducible rfl)))
                try simp only [Act.put, List.getElem_toArray, List.getElem_cons_succ, List.getElem_cons_zero, List.setIfInBounds_toArray, List.set_cons_zero, List.set_cons_succ]
                refine wpAnyH_take (i := 13) (oi := _) (v := ?_) rfl (by kernel_rfl) (by kernel_rfl) (by kernel_rfl) (fun _ _ _ h => h) (Or.inl ⟨by rfl, ?_⟩) (by assumption) ?_
                (rotate_left); (focus (intro wv hSw; (obtain ⟨qP, qO, qV, qC, qD, qK, qB⟩ := hSw); obtain ⟨u0_, u1_, _, _, _⟩ := blk2 qP; go_simp; (try with_reducible rfl)))
                try simp only [Act.put, List.getElem_toArray, List.getElem_cons_succ, List.getElem_cons_zero, List.setIfInBounds_toArray, List.set_cons_zero, List.set_cons_succ]
                refine wpAnyH_done (by kernel_rfl) ?_ _
                go_wp2_with fail
                go_roundw
                case rel => exact ⟨k + 1, by go_num, by omega, hP_0, hO_0, hV_0, hB_0⟩
                case measure => simp [intOf]; omega
        · have hki : ¬ (k : Int) < (m : Int) := by omega
          go_wp2_with fail
          refine (alive_any _).mono ?_; rintro e' w' ⟨rfl, rfl⟩
          go_wp2
          go_ret
          exact ⟨rfl, hB⟩

set_option maxRecDepth 100000 in
theorem lifted (os : Os) (started : os.Started) (H : Type) (enc : TypeId × Value → H) :
    ReturnsInHanded {} Try.checked os 6 .any (Rows.fnShadeOfSpec.pre6 enc Try.prog Try.f6 Rows.fnShadeOfRow.domain false) (Rows.fnShadeOfSpec.post enc Try.prog Try.f6 false true false false) := by
  refine returnsInHanded_of_change (C := Try.checked) own started (by kernel_rfl) Try.func6
    (ChangeSpec.witness6 (enc := enc) (C := Try.checked) false ⟨#[], #[.slice none 0 0], []⟩ 8 (by kernel_rfl) (by kernel_rfl) (by kernel_rfl) (by kernel_rfl)) ?_
  intro W base args ds gs before hval0 hW hcnd _
  have hval : ∀ (j : Nat) t v, Try.f6.params[j]? = some t → args[j]? = some v → Value.okWide Try.prog W .any base t v := hval0
  have hW' := hW
  obtain ⟨p, q, hA0, hV, rfl, hfz, hnd⟩ := hW
  have hA : DataW.TrodAll enc Try.prog W 0 (fun _ => true) true Try.f6.params.toList args.toList ds p := hA0
  rw [Try.params6] at hA hval
  obtain ⟨v0, vs0, d0, ds0, p0, q0, hargs, rfl, rfl, h0, r0⟩ := trodAll_cons hA
  obtain ⟨rfl, rfl, rfl⟩ := trodAll_nil r0
  obtain rfl : args = #[v0] := by cases args; simp_all
  obtain ⟨rfl, rfl⟩ := trodVars_none hV
  have k0 := h0
  have lt0 : ∀ x ∈ p0, x.block < W.heap.size := by obtain ⟨m, hm⟩ := k0; exact DataW.trod_lt m _ _ _ hm
  obtain ⟨a0, len0, cap0, rfl⟩ := okWide_slice Try.underlying22 (hval 0 22 v0 rfl rfl)
  have w0 : CodeOk W a0 len0 cap0 := by
    obtain ⟨fuel, hf⟩ := h0
    rcases open_ints Try.underlying22 Try.underlying5 (by kernel_rfl) hf with ⟨hcs, _⟩ | ⟨x, l, c, zs, hcs, _, hl, hm, hz, _, hcell, hwz⟩
    · simp [Value.cells] at hcs
      obtain ⟨rfl, rfl, rfl⟩ := hcs
      exact code_nil W
    · simp [Value.cells] at hcs
      obtain ⟨rfl, rfl, rfl⟩ := hcs
      exact code_ok hl hm (by simp at hz; omega) hcell hwz
  clear hA0 hval0
  refine (walk W a0 len0 cap0 w0).mono fun e W' ⟨he, bel⟩ => ?_
  subst he
  exact ⟨_, rfl, _, _, _, [], _, [], hW', trodAll_mk1 (shut_bool Try.underlying4 _), (trodAll_cons_mk (Below.trod laidOut (by kernel_rfl) (of_decide_eq_true (by kernel_rfl)) k0 bel lt0) trodAll_mk0), rfl, bel.frame _, fun h => by cases h⟩

theorem over : Rows.fnShadeOfRow.holds Try.pinned (OpenSpec.ofChange Rows.fnShadeOfSpec) :=
  OpenClaim.holds_of_wide 6 Try.f6 rfl rfl rfl rfl rfl rfl rfl ⟨rfl, rfl, rfl, rfl, rfl⟩ rfl rfl rfl rfl rfl (by kernel_rfl) Try.func6 (by kernel_rfl)
    (of_decide_eq_true (by kernel_rfl)) (by unfold Func.isWrapper; first | (rw [if_pos (by decide +kernel)]; kernel_rfl) | (rw [if_neg (by decide +kernel)]; exact ⟨rfl, rfl⟩))
    (fun os started H enc _ => lifted os started H enc)

/-- The statement. -/
theorem proved : Rows.FnShadeOfSaid :=
  over
#print axioms proved
end Go.Proofs.Ytidppabconifkaa.fnShadeOf
