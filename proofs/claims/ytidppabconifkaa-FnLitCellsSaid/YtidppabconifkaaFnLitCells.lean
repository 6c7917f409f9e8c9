/- FnLitCells: whatever the input, the law returns true, and its arguments read as they did. No conditions beyond those of the statement's row. -/
import Derived.Test.YtidppabconifkaaYe
import Derived.Test.YtidppabconifkaaYi
import Derived.Test.YtidppabconifkaaLp
namespace Go.Proofs.Ytidppabconifkaa.fnLitCells
open Go.Proofs.Ytidppabconifkaa
open Go.ChangeShapes Go.WideShapes Go.ChangeAt Go.RowKit Go.Joins
set_option linter.unusedVariables false
set_option linter.unusedSimpArgs false
set_option linter.unnecessarySimpa false

theorem own : ownKnob Try.prog.godebug = none := by kernel_rfl
theorem laidOut : laidOutB Try.prog = true := by kernel_rfl

set_option maxRecDepth 100000 in
set_option maxHeartbeats 4000000 in
theorem walk (w : World) (a0 : Option Addr) (len0 cap0 : Nat) (w0 : CodeOk w a0 len0 cap0) :
    Calls Try.prog 7 #[.slice a0 len0 cap0] w fun e w' => e = .returned (.bool true) ∧ Below w.heap.size w w' := by
  by_cases hl : 1048576 < len0
  · have w0' := w0.2.1
    unfold maxLen at w0'
    clear w0
    go_enter Try.func7, Try.ntmps7
    go_wp2
    go_ret
    exact ⟨rfl, Below.refl _ _⟩
  · have w0' := w0.2.1
    unfold maxLen at w0'
    have hle := w0.1
    have HW := Lib.hid w0
    clear w0
    go_enter Try.func7, Try.ntmps7
    go_wp2_with fail
    refine (drLitCells_any _ _ _ _ HW.out).mono ?_; rintro e w1 ⟨d, xs, A, cp, e, f, rfl, ⟨d0, d1⟩, hx6, hO0, ⟨e0_, e1_⟩, ⟨f0_, f1_⟩, hB0⟩
    obtain ⟨m, hm⟩ : ∃ m, xs.length = m := ⟨_, rfl⟩
    rw [hm] at hx6 ⊢
    have HM := Lib.hid hm
    clear hm
    cases hv : okB d xs e f
    · obtain ⟨l, hl⟩ : ∃ l, liL d xs e f = l := ⟨_, rfl⟩
      have HL := Lib.hid hl
      have HQ : Hid (l.length = 0) := Lib.hid (by rw [← hl, li_no hv]; rfl)
      clear hv hl
      have hP1 : (w1.alloc (.cells #[.int .i64 d, .slice A m cp] 25)).heap[w1.heap.size]? = some (.cells #[.int .i64 d, .slice A m cp] 25) := by have := blk_new (w1) (.cells #[.int .i64 d, .slice A m cp] 25); simpa using this
      have hB1 := hB0.alloc hB0.size (.cells #[.int .i64 d, .slice A m cp] 25)
      have hO1 := hO0.next (bel1 _ (.cells #[.int .i64 d, .slice A m cp] 25))
      have zBP := hB0.size
      obtain ⟨cP1_0, cP1_1, fP1_0, fP1_1, zP1⟩ := blk2 hP1
      go_wp2_with fail
      refine (iLc_len d A cp xs e f _ HM.out hO1.row (by omega) HL.out HQ.out).mono ?_; rintro e' w2 ⟨V, cv, rfl, hV2, hw2⟩
      have hP2 := blk_next hP1 hw2
      have hO2 := hO1.next hw2
      have hB2 := bel_next hB1 hw2
      have hV2 := hV2.mono (base' := w.heap.size) hB1.size
      obtain ⟨cP2_0, cP2_1, fP2_0, fP2_1, zP2⟩ := blk2 hP2
      go_wp2_with fail
      refine (sLc_len d A cp xs e f _ HM.out hO2.row (by omega) HL.out HQ.out).mono ?_; rintro e' w3 ⟨U, cu, rfl, hU3, hw3⟩
      have hP3 := blk_next hP2 hw3
      have hO3 := hO2.next hw3
      have hV3 := hV2.next hw3
      have hB3 := bel_next hB2 hw3
      have hU3 := hU3.mono (base' := w.heap.size) hB2.size
      go_wp2_with fail
      refine (sameNums_is V U cv cu l HQ.out hV3.row hU3.row (by omega)).mono ?_; rintro e' w4 ⟨rfl, hw4⟩
      have hP4 := blk_next hP3 hw4
      have hO4 := hO3.next hw4
      have hV4 := hV3.next hw4
      have hU4 := hU3.next hw4
      have hB4 := bel_next hB3 hw4
      obtain ⟨cP4_0, cP4_1, fP4_0, fP4_1, zP4⟩ := blk2 hP4
      go_wp2_with fail
      refine (alive_any _).mono ?_; rintro e' w' ⟨rfl, rfl⟩
      go_wp2
      go_ret
      exact ⟨rfl, hB4⟩
    · obtain ⟨hcv, ⟨e0, e1⟩, f0, f1⟩ := okB_iff.1 hv
      obtain ⟨l, hl⟩ : ∃ l, liL d xs e f = l := ⟨_, rfl⟩
      have HL := Lib.hid hl
      obtain ⟨q, hq⟩ : ∃ q, l.length = q := ⟨_, rfl⟩
      have HQ := Lib.hid hq
      have hqm : q ≤ m := by rw [← hq, ← hl, ← HM.out]; exact liL_len _ _ _ _
      by_cases hq0 : q = 0
      · subst hq0
        clear hv hl hcv hq
        have hP1 : (w1.alloc (.cells #[.int .i64 d, .slice A m cp] 25)).heap[w1.heap.size]? = some (.cells #[.int .i64 d, .slice A m cp] 25) := by have := blk_new (w1) (.cells #[.int .i64 d, .slice A m cp] 25); simpa using this
        have hB1 := hB0.alloc hB0.size (.cells #[.int .i64 d, .slice A m cp] 25)
        have hO1 := hO0.next (bel1 _ (.cells #[.int .i64 d, .slice A m cp] 25))
        have zBP := hB0.size
        obtain ⟨cP1_0, cP1_1, fP1_0, fP1_1, zP1⟩ := blk2 hP1
        go_wp2_with fail
        refine (iLc_len d A cp xs e f _ HM.out hO1.row (by omega) HL.out HQ.out).mono ?_; rintro e' w2 ⟨V, cv, rfl, hV2, hw2⟩
        have hP2 := blk_next hP1 hw2
        have hO2 := hO1.next hw2
        have hB2 := bel_next hB1 hw2
        have hV2 := hV2.mono (base' := w.heap.size) hB1.size
        obtain ⟨cP2_0, cP2_1, fP2_0, fP2_1, zP2⟩ := blk2 hP2
        go_wp2_with fail
        refine (sLc_len d A cp xs e f _ HM.out hO2.row (by omega) HL.out HQ.out).mono ?_; rintro e' w3 ⟨U, cu, rfl, hU3, hw3⟩
        have hP3 := blk_next hP2 hw3
        have hO3 := hO2.next hw3
        have hV3 := hV2.next hw3
        have hB3 := bel_next hB2 hw3
        have hU3 := hU3.mono (base' := w.heap.size) hB2.size
        go_wp2_with fail
        refine (sameNums_is V U cv cu l HQ.out hV3.row hU3.row (by omega)).mono ?_; rintro e' w4 ⟨rfl, hw4⟩
        have hP4 := blk_next hP3 hw4
        have hO4 := hO3.next hw4
        have hV4 := hV3.next hw4
        have hU4 := hU3.next hw4
        have hB4 := bel_next hB3 hw4
        obtain ⟨cP4_0, cP4_1, fP4_0, fP4_1, zP4⟩ := blk2 hP4
        go_wp2_with fail
        refine (alive_any _).mono ?_; rintro e' w' ⟨rfl, rfl⟩
        go_wp2
        go_ret
        exact ⟨rfl, hB4⟩
      · have HHAS : Hid (∀ (i : Nat) (hi : i < xs.length), xs[i] = mxC xs m → hasB l (i : Int) = true) := Lib.hid (fun i hi h9 => by rw [← hl]; exact mxC_has hv hi (by rw [HM.out]; exact h9))
        have HASC : Hid (Asc l) := Lib.hid (by rw [← hl]; exact asc_li _ _ _ _)
        obtain ⟨l1, hl1⟩ : ∃ l1, ct1 d xs = l1 := ⟨_, rfl⟩
        obtain ⟨l2, hl2⟩ : ∃ l2, liL d l1 ((e + 1) % 4) f = l2 := ⟨_, rfl⟩
        have HTD : Hid (ctD d xs = d) := Lib.hid (ctD_yes hcv)
        have HTL : Hid (ctL d xs = l1) := Lib.hid ((ctL_ct1 hcv).trans hl1)
        have HTQ : Hid (l1.length = m) := Lib.hid (by rw [← hl1, ct1_len, HM.out])
        have HL2 := Lib.hid hl2
        have HQ2 : Hid (l2.length = q) := Lib.hid (by rw [← hl2, ← hl1, lt_turn hv, hl]; exact hq)
        have hq0i : ((q : Int) == 0) = false := by rw [beq_eq_false_iff_ne]; omega
        clear hv hl hcv hq hl1 hl2
        have hP1 : (w1.alloc (.cells #[.int .i64 d, .slice A m cp] 25)).heap[w1.heap.size]? = some (.cells #[.int .i64 d, .slice A m cp] 25) := by have := blk_new (w1) (.cells #[.int .i64 d, .slice A m cp] 25); simpa using this
        have hB1 := hB0.alloc hB0.size (.cells #[.int .i64 d, .slice A m cp] 25)
        have hO1 := hO0.next (bel1 _ (.cells #[.int .i64 d, .slice A m cp] 25))
        have zBP := hB0.size
        obtain ⟨cP1_0, cP1_1, fP1_0, fP1_1, zP1⟩ := blk2 hP1
        go_wp2_with fail
        refine (iLc_len d A cp xs e f _ HM.out hO1.row (by omega) HL.out HQ.out).mono ?_; rintro e' w2 ⟨V, cv, rfl, hV2, hw2⟩
        have hP2 := blk_next hP1 hw2
        have hO2 := hO1.next hw2
        have hB2 := bel_next hB1 hw2
        have hV2 := hV2.mono (base' := w.heap.size) hB1.size
        obtain ⟨cP2_0, cP2_1, fP2_0, fP2_1, zP2⟩ := blk2 hP2
        go_wp2_with fail
        refine (sLc_len d A cp xs e f _ HM.out hO2.row (by omega) HL.out HQ.out).mono ?_; rintro e' w3 ⟨U, cu, rfl, hU3, hw3⟩
        have hP3 := blk_next hP2 hw3
        have hO3 := hO2.next hw3
        have hV3 := hV2.next hw3
        have hB3 := bel_next hB2 hw3
        have hU3 := hU3.mono (base' := w.heap.size) hB2.size
        go_wp2_with fail
        refine (sameNums_is V U cv cu l HQ.out hV3.row hU3.row (by omega)).mono ?_; rintro e' w4 ⟨rfl, hw4⟩
        have hP4 := blk_next hP3 hw4
        have hO4 := hO3.next hw4
        have hV4 := hV3.next hw4
        have hU4 := hU3.next hw4
        have hB4 := bel_next hB3 hw4
        obtain ⟨cP4_0, cP4_1, fP4_0, fP4_1, zP4⟩ := blk2 hP4
        go_wp2_with fail
        go_loopw [7, 8] (fun mv iv wr => ∃ (k : Nat) (s : Int), iv = .int .i64 k ∧ k ≤ m ∧ mv = .int .i64 s ∧ Hid (mxC xs k = s) ∧ wr.heap[w1.heap.size]? = some (.cells #[.int .i64 d, .slice A m cp] 25) ∧ SOwn encNum wr w.heap.size 3 A cp xs ∧ SOwn encNum wr w.heap.size 3 V cv l ∧ Below w.heap.size w wr) (fun _ iv _ => (m - intOf iv).toNat)
        case atStart => exact ⟨0, 0, rfl, by omega, rfl, Lib.hid rfl, hP4, hO4, hV4, hB4⟩
        case round =>
          clear hP4 hO4 hV4 hB4
          obtain ⟨k, s, rfl, k1, rfl, HX, hP, hO, hV, hB⟩ := hrel
          obtain ⟨p0_, p1_, _, _, _⟩ := blk2 hP
          by_cases hlt : k < m
          · have hki : (k : Int) < (m : Int) := by omega
            have hkx : k < xs.length := by rw [HM.out]; exact hlt
            obtain ⟨b1, off1, rfl, hb1, cA⟩ := rowNum hO.row hkx
            have hst := mxC_next hkx
            rw [HX.out] at hst
            generalize xs[k] = v at cA hst
            by_cases a9 : s < v
            · have HX2 : Hid (mxC xs (k + 1) = v) := Lib.hid (by rw [hst]; omega)
              clear hst
              go_wp2_with fail
              go_roundw
              case rel => exact ⟨k + 1, v, by go_num, by omega, rfl, HX2, hP, hO, hV, hB⟩
              case measure => simp [intOf]; omega
            · have HX2 : Hid (mxC xs (k + 1) = s) := Lib.hid (by rw [hst]; omega)
              clear hst
              go_wp2_with fail
              go_roundw
              case rel => exact ⟨k + 1, s, by go_num, by omega, rfl, HX2, hP, hO, hV, hB⟩
              case measure => simp [intOf]; omega
          · have hkm : k = m := by omega
            subst hkm
            have hki : ¬ (k : Int) < (k : Int) := by omega
            go_wp2_with fail
            go_loopw [9] (fun iv wr => ∃ j : Nat, iv = .int .i64 j ∧ j ≤ k ∧ wr.heap[w1.heap.size]? = some (.cells #[.int .i64 d, .slice A k cp] 25) ∧ SOwn encNum wr w.heap.size 3 A cp xs ∧ SOwn encNum wr w.heap.size 3 V cv l ∧ Below w.heap.size w wr) (fun iv _ => (k - intOf iv).toNat)
            case atStart => exact ⟨0, rfl, by omega, hP, hO, hV, hB⟩
            case round =>
              clear hP hO hV hB p0_ p1_ hki
              obtain ⟨j, rfl, j1, hP, hO, hV, hB⟩ := hrel
              obtain ⟨p0_, p1_, _, _, _⟩ := blk2 hP
              by_cases hlt2 : j < k
              · have hji : (j : Int) < (k : Int) := by omega
                have hjx : j < xs.length := by rw [HM.out]; exact hlt2
                obtain ⟨b1, off1, rfl, hb1, cA⟩ := rowNum hO.row hjx
                have hhas := HHAS.out j hjx
                rw [HX.out] at hhas
                generalize xs[j] = v at cA hhas
                by_cases a9 : v = s
                · have HB9 := Lib.hid (hhas a9)
                  have he : (v == s) = true := by rw [beq_iff_eq]; exact a9
                  clear hhas a9
                  go_wp2_with fail
                  refine (hasY_is V cv l j _ HQ.out hV.row (by omega) HB9.out).mono ?_; rintro e' w5 ⟨rfl, hw5⟩
                  replace hP := blk_next hP hw5
                  replace hO := hO.next hw5
                  replace hV := hV.next hw5
                  replace hB := bel_next hB hw5
                  go_wp2_with fail
                  go_roundw
                  case rel => exact ⟨j + 1, by go_num, by omega, hP, hO, hV, hB⟩
                  case measure => simp [intOf]; omega
                · have he : (v == s) = false := by rw [beq_eq_false_iff_ne]; exact a9
                  clear hhas a9
                  go_wp2_with fail
                  go_roundw
                  case rel => exact ⟨j + 1, by go_num, by omega, hP, hO, hV, hB⟩
                  case measure => simp [intOf]; omega
              · have hji : ¬ (j : Int) < (k : Int) := by omega
                go_wp2_with fail
                refine (iCt_len d A cp xs _ HM.out hO.row (by omega) HTD.out HTL.out HTQ.out).mono ?_; rintro e' w5 ⟨T, ct, rfl, hT, hw5⟩
                have hV5 := hV.next hw5
                have hB5 := bel_next hB hw5
                go_wp2_with fail
                refine (iLc_len d T ct l1 ((e + 1) % 4) f _ HTQ.out hT.row (by omega) HL2.out HQ2.out).mono ?_; rintro e' w6 ⟨X, cx, rfl, hX, hw6⟩
                have hV6 := hV5.next hw6
                have hB6 := bel_next hB5 hw6
                go_wp2_with fail
                refine (ascY_is V cv l _ HQ.out hV6.row HASC.out (by omega)).mono ?_; rintro e' w7 ⟨rfl, hw7⟩
                go_wp2
                go_ret
                exact ⟨rfl, bel_next hB6 hw7⟩

set_option maxRecDepth 100000 in
theorem lifted (os : Os) (started : os.Started) (H : Type) (enc : TypeId × Value → H) :
    ReturnsInHanded {} Try.checked os 7 .any (Rows.fnLitCellsSpec.pre6 enc Try.prog Try.f7 Rows.fnLitCellsRow.domain false) (Rows.fnLitCellsSpec.post enc Try.prog Try.f7 false true false false) := by
  refine returnsInHanded_of_change (C := Try.checked) own started (by kernel_rfl) Try.func7
    (ChangeSpec.witness6 (enc := enc) (C := Try.checked) false ⟨#[], #[.slice none 0 0], []⟩ 8 (by kernel_rfl) (by kernel_rfl) (by kernel_rfl) (by kernel_rfl)) ?_
  intro W base args ds gs before hval0 hW hcnd _
  have hval : ∀ (j : Nat) t v, Try.f7.params[j]? = some t → args[j]? = some v → Value.okWide Try.prog W .any base t v := hval0
  have hW' := hW
  obtain ⟨p, q, hA0, hV, rfl, hfz, hnd⟩ := hW
  have hA : DataW.TrodAll enc Try.prog W 0 (fun _ => true) true Try.f7.params.toList args.toList ds p := hA0
  rw [Try.params7] at hA hval
  obtain ⟨v0, vs0, d0, ds0, p0, q0, hargs, rfl, rfl, h0, r0⟩ := trodAll_cons hA
  obtain ⟨rfl, rfl, rfl⟩ := trodAll_nil r0
  obtain rfl : args = #[v0] := by cases args; simp_all
  obtain ⟨rfl, rfl⟩ := trodVars_none hV
  have k0 := h0
  have lt0 : ∀ x ∈ p0, x.block < W.heap.size := by obtain ⟨m, hm⟩ := k0; exact DataW.trod_lt m _ _ _ hm
  obtain ⟨a0, len0, cap0, rfl⟩ := okWide_slice Try.underlying22 (hval 0 22 v0 rfl rfl)
  have w0 : CodeOk W a0 len0 cap0 := by
    obtain ⟨fuel, hf⟩ := h0
    rcases open_ints Try.underlying22 Try.underlying5 (by kernel_rfl) hf with ⟨hcs, _⟩ | ⟨x, l, c, zs, hcs, _, hl, hm, hz, _, hcell, hwz⟩
    · simp [Value.cells] at hcs
      obtain ⟨rfl, rfl, rfl⟩ := hcs
      exact code_nil W
    · simp [Value.cells] at hcs
      obtain ⟨rfl, rfl, rfl⟩ := hcs
      exact code_ok hl hm (by simp at hz; omega) hcell hwz
  clear hA0 hval0
  refine (walk W a0 len0 cap0 w0).mono fun e W' ⟨he, bel⟩ => ?_
  subst he
  exact ⟨_, rfl, _, _, _, [], _, [], hW', trodAll_mk1 (shut_bool Try.underlying4 _), (trodAll_cons_mk (Below.trod laidOut (by kernel_rfl) (of_decide_eq_true (by kernel_rfl)) k0 bel lt0) trodAll_mk0), rfl, bel.frame _, fun h => by cases h⟩

theorem over : Rows.fnLitCellsRow.holds Try.pinned (OpenSpec.ofChange Rows.fnLitCellsSpec) :=
  OpenClaim.holds_of_wide 7 Try.f7 rfl rfl rfl rfl rfl rfl rfl ⟨rfl, rfl, rfl, rfl, rfl⟩ rfl rfl rfl rfl rfl (by kernel_rfl) Try.func7 (by kernel_rfl)
    (of_decide_eq_true (by kernel_rfl)) (by unfold Func.isWrapper; first | (rw [if_pos (by decide +kernel)]; kernel_rfl) | (rw [if_neg (by decide +kernel)]; exact ⟨rfl, rfl⟩))
    (fun os started H enc _ => lifted os started H enc)

/-- The statement. -/
theorem proved : Rows.FnLitCellsSaid :=
  over
#print axioms proved
end Go.Proofs.Ytidppabconifkaa.fnLitCells
