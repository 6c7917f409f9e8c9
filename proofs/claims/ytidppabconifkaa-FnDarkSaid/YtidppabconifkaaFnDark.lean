/- FnDark: whatever the input, the law returns true, and its arguments read as they did. No conditions beyond those of the statement's row. -/
import Derived.Test.YtidppabconifkaaYe
import Derived.Test.YtidppabconifkaaYi
import Derived.Test.YtidppabconifkaaOb
import Derived.Test.YtidppabconifkaaLp
namespace Go.Proofs.Ytidppabconifkaa.fnDark
open Go.Proofs.Ytidppabconifkaa
open Go.ChangeShapes Go.WideShapes Go.ChangeAt Go.RowKit Go.Joins
set_option linter.unusedVariables false
set_option linter.unusedSimpArgs false
set_option linter.unnecessarySimpa false

theorem own : ownKnob Try.prog.godebug = none := by kernel_rfl
theorem laidOut : laidOutB Try.prog = true := by kernel_rfl

set_option maxRecDepth 100000 in
set_option maxHeartbeats 4000000 in
theorem walk (w : World) (a0 : Option Addr) (len0 cap0 : Nat) (w0 : CodeOk w a0 len0 cap0) :
    Calls Try.prog 5 #[.slice a0 len0 cap0] w fun e w' => e = .returned (.bool true) ∧ Below w.heap.size w w' := by
  by_cases hl : 1048576 < len0
  · have w0' := w0.2.1
    unfold maxLen at w0'
    clear w0
    go_enter Try.func5, Try.ntmps5
    go_wp2
    go_ret
    exact ⟨rfl, Below.refl _ _⟩
  · have w0' := w0.2.1
    unfold maxLen at w0'
    have hle := w0.1
    have HW := Lib.hid w0
    clear w0
    go_enter Try.func5, Try.ntmps5
    go_wp2_with fail
    refine (drDark_any _ _ _ _ HW.out).mono ?_; rintro e w1 ⟨d, xs, A, cp, c, e, f, rfl, ⟨d0, d1⟩, hx6, hO0, ⟨c0_, c1_⟩, ⟨e0_, e1_⟩, ⟨f0_, f1_⟩, hB0⟩
    obtain ⟨m, hm⟩ : ∃ m, xs.length = m := ⟨_, rfl⟩
    rw [hm] at hx6 ⊢
    have HM := Lib.hid hm
    clear hm
    cases hh : cvB d xs
    · have HDR : Hid (daB d xs c e f = false) := Lib.hid (da_noO (fun h => by rw [hh] at h; simp at h))
      have HCV : Hid (cvB d xs = false) := Lib.hid (hh)
      clear hh
      have hP1 : (w1.alloc (.cells #[.int .i64 d, .slice A m cp] 25)).heap[w1.heap.size]? = some (.cells #[.int .i64 d, .slice A m cp] 25) := by have := blk_new (w1) (.cells #[.int .i64 d, .slice A m cp] 25); simpa using this
      have hB1 := hB0.alloc hB0.size (.cells #[.int .i64 d, .slice A m cp] 25)
      have hO1 := hO0.next (bel1 _ (.cells #[.int .i64 d, .slice A m cp] 25))
      have zBP := hB0.size
      obtain ⟨cP1_0, cP1_1, fP1_0, fP1_1, zP1⟩ := blk2 hP1
      go_wp2_with fail
      refine (iDk_is d A cp xs c e f _ HM.out hO1.row (by omega) HDR.out).mono ?_; rintro e' w2 ⟨rfl, hw2⟩
      have hP2 := blk_next hP1 hw2
      have hO2 := hO1.next hw2
      have hB2 := bel_next hB1 hw2
      obtain ⟨cP2_0, cP2_1, fP2_0, fP2_1, zP2⟩ := blk2 hP2
      go_wp2_with fail
      refine (sDk_is d A cp xs c e f _ HM.out hO2.row (by omega) HDR.out).mono ?_; rintro e' w3 ⟨rfl, hw3⟩
      have hP3 := blk_next hP2 hw3
      have hO3 := hO2.next hw3
      have hB3 := bel_next hB2 hw3
      obtain ⟨cP3_0, cP3_1, fP3_0, fP3_1, zP3⟩ := blk2 hP3
      go_wp2_with fail
      refine (sCv_is d A cp xs _ HM.out hO3.row (by omega) HCV.out).mono ?_; rintro e' w4 ⟨rfl, hw4⟩
      have hP4 := blk_next hP3 hw4
      have hO4 := hO3.next hw4
      have hB4 := bel_next hB3 hw4
      obtain ⟨cP4_0, cP4_1, fP4_0, fP4_1, zP4⟩ := blk2 hP4
      go_wp2_with fail
      refine (alive_any _).mono ?_; rintro e' w' ⟨rfl, rfl⟩
      go_wp2
      go_ret
      exact ⟨rfl, hB4⟩
    · by_cases g0_ : c < 0
      · have HDR : Hid (daB d xs c e f = false) := Lib.hid (da_noC (ce_noX (by omega)))
        have HCV : Hid (cvB d xs = true) := Lib.hid (hh)
        clear hh
        have hP1 : (w1.alloc (.cells #[.int .i64 d, .slice A m cp] 25)).heap[w1.heap.size]? = some (.cells #[.int .i64 d, .slice A m cp] 25) := by have := blk_new (w1) (.cells #[.int .i64 d, .slice A m cp] 25); simpa using this
        have hB1 := hB0.alloc hB0.size (.cells #[.int .i64 d, .slice A m cp] 25)
        have hO1 := hO0.next (bel1 _ (.cells #[.int .i64 d, .slice A m cp] 25))
        have zBP := hB0.size
        obtain ⟨cP1_0, cP1_1, fP1_0, fP1_1, zP1⟩ := blk2 hP1
        go_wp2_with fail
        refine (iDk_is d A cp xs c e f _ HM.out hO1.row (by omega) HDR.out).mono ?_; rintro e' w2 ⟨rfl, hw2⟩
        have hP2 := blk_next hP1 hw2
        have hO2 := hO1.next hw2
        have hB2 := bel_next hB1 hw2
        obtain ⟨cP2_0, cP2_1, fP2_0, fP2_1, zP2⟩ := blk2 hP2
        go_wp2_with fail
        refine (sDk_is d A cp xs c e f _ HM.out hO2.row (by omega) HDR.out).mono ?_; rintro e' w3 ⟨rfl, hw3⟩
        have hP3 := blk_next hP2 hw3
        have hO3 := hO2.next hw3
        have hB3 := bel_next hB2 hw3
        obtain ⟨cP3_0, cP3_1, fP3_0, fP3_1, zP3⟩ := blk2 hP3
        go_wp2_with fail
        refine (sCv_is d A cp xs _ HM.out hO3.row (by omega) HCV.out).mono ?_; rintro e' w4 ⟨rfl, hw4⟩
        have hP4 := blk_next hP3 hw4
        have hO4 := hO3.next hw4
        have hB4 := bel_next hB3 hw4
        obtain ⟨cP4_0, cP4_1, fP4_0, fP4_1, zP4⟩ := blk2 hP4
        go_wp2_with fail
        refine (alive_any _).mono ?_; rintro e' w' ⟨rfl, rfl⟩
        go_wp2
        go_ret
        exact ⟨rfl, hB4⟩
      · by_cases g1_ : (m : Int) ≤ c
        · have HDR : Hid (daB d xs c e f = false) := Lib.hid (da_noC (ce_noX (by rw [HM.out]; omega)))
          have HCV : Hid (cvB d xs = true) := Lib.hid (hh)
          clear hh
          have hP1 : (w1.alloc (.cells #[.int .i64 d, .slice A m cp] 25)).heap[w1.heap.size]? = some (.cells #[.int .i64 d, .slice A m cp] 25) := by have := blk_new (w1) (.cells #[.int .i64 d, .slice A m cp] 25); simpa using this
          have hB1 := hB0.alloc hB0.size (.cells #[.int .i64 d, .slice A m cp] 25)
          have hO1 := hO0.next (bel1 _ (.cells #[.int .i64 d, .slice A m cp] 25))
          have zBP := hB0.size
          obtain ⟨cP1_0, cP1_1, fP1_0, fP1_1, zP1⟩ := blk2 hP1
          go_wp2_with fail
          refine (iDk_is d A cp xs c e f _ HM.out hO1.row (by omega) HDR.out).mono ?_; rintro e' w2 ⟨rfl, hw2⟩
          have hP2 := blk_next hP1 hw2
          have hO2 := hO1.next hw2
          have hB2 := bel_next hB1 hw2
          obtain ⟨cP2_0, cP2_1, fP2_0, fP2_1, zP2⟩ := blk2 hP2
          go_wp2_with fail
          refine (sDk_is d A cp xs c e f _ HM.out hO2.row (by omega) HDR.out).mono ?_; rintro e' w3 ⟨rfl, hw3⟩
          have hP3 := blk_next hP2 hw3
          have hO3 := hO2.next hw3
          have hB3 := bel_next hB2 hw3
          obtain ⟨cP3_0, cP3_1, fP3_0, fP3_1, zP3⟩ := blk2 hP3
          go_wp2_with fail
          refine (sCv_is d A cp xs _ HM.out hO3.row (by omega) HCV.out).mono ?_; rintro e' w4 ⟨rfl, hw4⟩
          have hP4 := blk_next hP3 hw4
          have hO4 := hO3.next hw4
          have hB4 := bel_next hB3 hw4
          obtain ⟨cP4_0, cP4_1, fP4_0, fP4_1, zP4⟩ := blk2 hP4
          go_wp2_with fail
          refine (alive_any _).mono ?_; rintro e' w' ⟨rfl, rfl⟩
          go_wp2
          go_ret
          exact ⟨rfl, hB4⟩
        · by_cases g2_ : e < 0
          · have HDR : Hid (daB d xs c e f = false) := Lib.hid (da_noO (by omega))
            have HCV : Hid (cvB d xs = true) := Lib.hid (hh)
            clear hh
            have hP1 : (w1.alloc (.cells #[.int .i64 d, .slice A m cp] 25)).heap[w1.heap.size]? = some (.cells #[.int .i64 d, .slice A m cp] 25) := by have := blk_new (w1) (.cells #[.int .i64 d, .slice A m cp] 25); simpa using this
            have hB1 := hB0.alloc hB0.size (.cells #[.int .i64 d, .slice A m cp] 25)
            have hO1 := hO0.next (bel1 _ (.cells #[.int .i64 d, .slice A m cp] 25))
            have zBP := hB0.size
            obtain ⟨cP1_0, cP1_1, fP1_0, fP1_1, zP1⟩ := blk2 hP1
            go_wp2_with fail
            refine (iDk_is d A cp xs c e f _ HM.out hO1.row (by omega) HDR.out).mono ?_; rintro e' w2 ⟨rfl, hw2⟩
            have hP2 := blk_next hP1 hw2
            have hO2 := hO1.next hw2
            have hB2 := bel_next hB1 hw2
            obtain ⟨cP2_0, cP2_1, fP2_0, fP2_1, zP2⟩ := blk2 hP2
            go_wp2_with fail
            refine (sDk_is d A cp xs c e f _ HM.out hO2.row (by omega) HDR.out).mono ?_; rintro e' w3 ⟨rfl, hw3⟩
            have hP3 := blk_next hP2 hw3
            have hO3 := hO2.next hw3
            have hB3 := bel_next hB2 hw3
            obtain ⟨cP3_0, cP3_1, fP3_0, fP3_1, zP3⟩ := blk2 hP3
            go_wp2_with fail
            refine (sCv_is d A cp xs _ HM.out hO3.row (by omega) HCV.out).mono ?_; rintro e' w4 ⟨rfl, hw4⟩
            have hP4 := blk_next hP3 hw4
            have hO4 := hO3.next hw4
            have hB4 := bel_next hB3 hw4
            obtain ⟨cP4_0, cP4_1, fP4_0, fP4_1, zP4⟩ := blk2 hP4
            go_wp2_with fail
            refine (alive_any _).mono ?_; rintro e' w' ⟨rfl, rfl⟩
            go_wp2
            go_ret
            exact ⟨rfl, hB4⟩
          · by_cases g3_ : 3 < e
            · have HDR : Hid (daB d xs c e f = false) := Lib.hid (da_noO (by omega))
              have HCV : Hid (cvB d xs = true) := Lib.hid (hh)
              clear hh
              have hP1 : (w1.alloc (.cells #[.int .i64 d, .slice A m cp] 25)).heap[w1.heap.size]? = some (.cells #[.int .i64 d, .slice A m cp] 25) := by have := blk_new (w1) (.cells #[.int .i64 d, .slice A m cp] 25); simpa using this
              have hB1 := hB0.alloc hB0.size (.cells #[.int .i64 d, .slice A m cp] 25)
              have hO1 := hO0.next (bel1 _ (.cells #[.int .i64 d, .slice A m cp] 25))
              have zBP := hB0.size
              obtain ⟨cP1_0, cP1_1, fP1_0, fP1_1, zP1⟩ := blk2 hP1
              go_wp2_with fail
              refine (iDk_is d A cp xs c e f _ HM.out hO1.row (by omega) HDR.out).mono ?_; rintro e' w2 ⟨rfl, hw2⟩
              have hP2 := blk_next hP1 hw2
              have hO2 := hO1.next hw2
              have hB2 := bel_next hB1 hw2
              obtain ⟨cP2_0, cP2_1, fP2_0, fP2_1, zP2⟩ := blk2 hP2
              go_wp2_with fail
              refine (sDk_is d A cp xs c e f _ HM.out hO2.row (by omega) HDR.out).mono ?_; rintro e' w3 ⟨rfl, hw3⟩
              have hP3 := blk_next hP2 hw3
              have hO3 := hO2.next hw3
              have hB3 := bel_next hB2 hw3
              obtain ⟨cP3_0, cP3_1, fP3_0, fP3_1, zP3⟩ := blk2 hP3
              go_wp2_with fail
              refine (sCv_is d A cp xs _ HM.out hO3.row (by omega) HCV.out).mono ?_; rintro e' w4 ⟨rfl, hw4⟩
              have hP4 := blk_next hP3 hw4
              have hO4 := hO3.next hw4
              have hB4 := bel_next hB3 hw4
              obtain ⟨cP4_0, cP4_1, fP4_0, fP4_1, zP4⟩ := blk2 hP4
              go_wp2_with fail
              refine (alive_any _).mono ?_; rintro e' w' ⟨rfl, rfl⟩
              go_wp2
              go_ret
              exact ⟨rfl, hB4⟩
            · by_cases g4_ : f < 0
              · have HDR : Hid (daB d xs c e f = false) := Lib.hid (da_noO (by omega))
                have HCV : Hid (cvB d xs = true) := Lib.hid (hh)
                clear hh
                have hP1 : (w1.alloc (.cells #[.int .i64 d, .slice A m cp] 25)).heap[w1.heap.size]? = some (.cells #[.int .i64 d, .slice A m cp] 25) := by have := blk_new (w1) (.cells #[.int .i64 d, .slice A m cp] 25); simpa using this
                have hB1 := hB0.alloc hB0.size (.cells #[.int .i64 d, .slice A m cp] 25)
                have hO1 := hO0.next (bel1 _ (.cells #[.int .i64 d, .slice A m cp] 25))
                have zBP := hB0.size
                obtain ⟨cP1_0, cP1_1, fP1_0, fP1_1, zP1⟩ := blk2 hP1
                go_wp2_with fail
                refine (iDk_is d A cp xs c e f _ HM.out hO1.row (by omega) HDR.out).mono ?_; rintro e' w2 ⟨rfl, hw2⟩
                have hP2 := blk_next hP1 hw2
                have hO2 := hO1.next hw2
                have hB2 := bel_next hB1 hw2
                obtain ⟨cP2_0, cP2_1, fP2_0, fP2_1, zP2⟩ := blk2 hP2
                go_wp2_with fail
                refine (sDk_is d A cp xs c e f _ HM.out hO2.row (by omega) HDR.out).mono ?_; rintro e' w3 ⟨rfl, hw3⟩
                have hP3 := blk_next hP2 hw3
                have hO3 := hO2.next hw3
                have hB3 := bel_next hB2 hw3
                obtain ⟨cP3_0, cP3_1, fP3_0, fP3_1, zP3⟩ := blk2 hP3
                go_wp2_with fail
                refine (sCv_is d A cp xs _ HM.out hO3.row (by omega) HCV.out).mono ?_; rintro e' w4 ⟨rfl, hw4⟩
                have hP4 := blk_next hP3 hw4
                have hO4 := hO3.next hw4
                have hB4 := bel_next hB3 hw4
                obtain ⟨cP4_0, cP4_1, fP4_0, fP4_1, zP4⟩ := blk2 hP4
                go_wp2_with fail
                refine (alive_any _).mono ?_; rintro e' w' ⟨rfl, rfl⟩
                go_wp2
                go_ret
                exact ⟨rfl, hB4⟩
              · by_cases g5_ : 5 < f
                · have HDR : Hid (daB d xs c e f = false) := Lib.hid (da_noO (by omega))
                  have HCV : Hid (cvB d xs = true) := Lib.hid (hh)
                  clear hh
                  have hP1 : (w1.alloc (.cells #[.int .i64 d, .slice A m cp] 25)).heap[w1.heap.size]? = some (.cells #[.int .i64 d, .slice A m cp] 25) := by have := blk_new (w1) (.cells #[.int .i64 d, .slice A m cp] 25); simpa using this
                  have hB1 := hB0.alloc hB0.size (.cells #[.int .i64 d, .slice A m cp] 25)
                  have hO1 := hO0.next (bel1 _ (.cells #[.int .i64 d, .slice A m cp] 25))
                  have zBP := hB0.size
                  obtain ⟨cP1_0, cP1_1, fP1_0, fP1_1, zP1⟩ := blk2 hP1
                  go_wp2_with fail
                  refine (iDk_is d A cp xs c e f _ HM.out hO1.row (by omega) HDR.out).mono ?_; rintro e' w2 ⟨rfl, hw2⟩
                  have hP2 := blk_next hP1 hw2
                  have hO2 := hO1.next hw2
                  have hB2 := bel_next hB1 hw2
                  obtain ⟨cP2_0, cP2_1, fP2_0, fP2_1, zP2⟩ := blk2 hP2
                  go_wp2_with fail
                  refine (sDk_is d A cp xs c e f _ HM.out hO2.row (by omega) HDR.out).mono ?_; rintro e' w3 ⟨rfl, hw3⟩
                  have hP3 := blk_next hP2 hw3
                  have hO3 := hO2.next hw3
                  have hB3 := bel_next hB2 hw3
                  obtain ⟨cP3_0, cP3_1, fP3_0, fP3_1, zP3⟩ := blk2 hP3
                  go_wp2_with fail
                  refine (sCv_is d A cp xs _ HM.out hO3.row (by omega) HCV.out).mono ?_; rintro e' w4 ⟨rfl, hw4⟩
                  have hP4 := blk_next hP3 hw4
                  have hO4 := hO3.next hw4
                  have hB4 := bel_next hB3 hw4
                  obtain ⟨cP4_0, cP4_1, fP4_0, fP4_1, zP4⟩ := blk2 hP4
                  go_wp2_with fail
                  refine (alive_any _).mono ?_; rintro e' w' ⟨rfl, rfl⟩
                  go_wp2
                  go_ret
                  exact ⟨rfl, hB4⟩
                · have hv : okB d xs e f = true := okB_iff.2 ⟨hh, ⟨by omega, by omega⟩, by omega, by omega⟩
                  obtain ⟨k, rfl⟩ : ∃ k : Nat, c = (k : Int) := ⟨c.toNat, by omega⟩
                  have hkm : k < m := by omega
                  have hkx : k < xs.length := by rw [HM.out]; exact hkm
                  have hce : ceB xs (k : Int) = true := ce_mk ⟨by omega, by omega⟩
                  obtain ⟨s, hs⟩ : ∃ s, shL d xs e f = s := ⟨_, rfl⟩
                  have HL := Lib.hid hs
                  have HQ : Hid (s.length = m) := Lib.hid (by rw [← hs, shL_len hv, HM.out])
                  have hkq : k < s.length := by rw [HQ.out]; exact hkm
                  obtain ⟨v, hvv⟩ : ∃ v, s[k]'hkq = v := ⟨_, rfl⟩
                  obtain ⟨t, htt⟩ : ∃ t, xs[k]'hkx = t := ⟨_, rfl⟩
                  have hsv : shI d xs e f (k : Int) = v := by subst hs; rw [← hvv]; exact (shL_at hv _).symm
                  have hdv : daB d xs (k : Int) e f = decide (t < v) := by rw [da_val hv hce]; unfold dkB; rw [tlI_at hkx, htt, hsv]
                  have htr : 0 ≤ t ∧ t ≤ 20 := by rw [← htt]; exact (cvB_iff.1 hh).2.2 _ (List.getElem_mem hkx)
                  obtain ⟨t0, t1⟩ := htr
                  obtain ⟨b, hb⟩ : ∃ b, csB d xs (k : Int) (t + 1) = b := ⟨_, rfl⟩
                  obtain ⟨g, hg⟩ : ∃ g, csD d xs (k : Int) (t + 1) = g := ⟨_, rfl⟩
                  obtain ⟨l, hl⟩ : ∃ l, csL d xs (k : Int) (t + 1) = l := ⟨_, rfl⟩
                  obtain ⟨q, hq⟩ : ∃ q, l.length = q := ⟨_, rfl⟩
                  have HSB := Lib.hid hb
                  have HSD := Lib.hid hg
                  have HSL := Lib.hid hl
                  have HSQ := Lib.hid hq
                  have HCV := Lib.hid hh
                  have HT := Lib.hid htt
                  have HVV := Lib.hid hvv
                  have HKX := Lib.hid hkx
                  have HKQ := Lib.hid hkq
                  have hki : (k : Int) < (m : Int) := by omega
                  by_cases hlt : t < v
                  · have HDR : Hid (daB d xs (k : Int) e f = true) := Lib.hid (by rw [hdv]; simp [hlt])
                    clear hv hce hs hvv htt hsv hdv hb hg hl hq hh
                    have hP1 : (w1.alloc (.cells #[.int .i64 d, .slice A m cp] 25)).heap[w1.heap.size]? = some (.cells #[.int .i64 d, .slice A m cp] 25) := by have := blk_new (w1) (.cells #[.int .i64 d, .slice A m cp] 25); simpa using this
                    have hB1 := hB0.alloc hB0.size (.cells #[.int .i64 d, .slice A m cp] 25)
                    have hO1 := hO0.next (bel1 _ (.cells #[.int .i64 d, .slice A m cp] 25))
                    have zBP := hB0.size
                    obtain ⟨cP1_0, cP1_1, fP1_0, fP1_1, zP1⟩ := blk2 hP1
                    go_wp2_with fail
                    refine (iDk_is d A cp xs k e f _ HM.out hO1.row (by omega) HDR.out).mono ?_; rintro e' w2 ⟨rfl, hw2⟩
                    have hP2 := blk_next hP1 hw2
                    have hO2 := hO1.next hw2
                    have hB2 := bel_next hB1 hw2
                    obtain ⟨cP2_0, cP2_1, fP2_0, fP2_1, zP2⟩ := blk2 hP2
                    go_wp2_with fail
                    refine (sDk_is d A cp xs k e f _ HM.out hO2.row (by omega) HDR.out).mono ?_; rintro e' w3 ⟨rfl, hw3⟩
                    have hP3 := blk_next hP2 hw3
                    have hO3 := hO2.next hw3
                    have hB3 := bel_next hB2 hw3
                    obtain ⟨cP3_0, cP3_1, fP3_0, fP3_1, zP3⟩ := blk2 hP3
                    go_wp2_with fail
                    refine (sCv_is d A cp xs _ HM.out hO3.row (by omega) HCV.out).mono ?_; rintro e' w4 ⟨rfl, hw4⟩
                    have hP4 := blk_next hP3 hw4
                    have hO4 := hO3.next hw4
                    have hB4 := bel_next hB3 hw4
                    obtain ⟨cP4_0, cP4_1, fP4_0, fP4_1, zP4⟩ := blk2 hP4
                    go_wp2_with fail
                    refine (iSh_len d A cp xs e f _ HM.out hO4.row (by omega) HL.out HQ.out).mono ?_; rintro e' w5 ⟨V, cv, rfl, hV5, hw5⟩
                    have hP5 := blk_next hP4 hw5
                    have hO5 := hO4.next hw5
                    have hB5 := bel_next hB4 hw5
                    have hV5 := hV5.mono (base' := w.heap.size) hB4.size
                    obtain ⟨cP5_0, cP5_1, fP5_0, fP5_1, zP5⟩ := blk2 hP5
                    obtain ⟨b1, off1, rfl, _, cA⟩ := rowNum hO5.row HKX.out
                    obtain ⟨b2, off2, rfl, _, cV⟩ := rowNum hV5.row HKQ.out
                    clear cA cV
                    go_wp2_with fail
                    refine wp_region_held_drew (S := (fun w' => w'.heap[w1.heap.size]? = some (.cells #[.int .i64 d, .slice (some ⟨b1, off1, none⟩) m cp] 25) ∧ SOwn encNum w' w.heap.size 3 (some ⟨b1, off1, none⟩) cp xs ∧ SOwn encNum w' w.heap.size 3 (some ⟨b2, off2, none⟩) cv s ∧ Below w.heap.size w w')) (by kernel_rfl) ⟨hP5, hO5.drew, hV5.drew, hB5.drew⟩ (fun hHeld => ?_)
                    obtain ⟨hP_0, hO_0, hV_0, hB_0⟩ := id hHeld
                    refine wpAnyH_take (i := 0) (oi := _) (v := ?_) rfl (by kernel_rfl) (by kernel_rfl) (by kernel_rfl) (fun _ _ _ h => h) (Or.inl ⟨by rfl, ?_⟩) (by assumption) ?_
                    (rotate_left); (focus (intro wv hSw; (obtain ⟨qP, qO, qV, qB⟩ := hSw); obtain ⟨u0_, u1_, _, _, _⟩ := blk2 qP; go_simp; (try with_reducible rfl)))
                    try simp only [Act.put, List.getElem_toArray, List.getElem_cons_succ, List.getElem_cons_zero, List.setIfInBounds_toArray, List.set_cons_zero, List.set_cons_succ]
                    refine wpAnyH_take (i := 1) (oi := _) (v := ?_) rfl (by kernel_rfl) (by kernel_rfl) (by kernel_rfl) (fun _ _ _ h => h) (Or.inl ⟨by rfl, ?_⟩) (by assumption) ?_
                    (rotate_left); (focus (intro wv hSw; (obtain ⟨qP, qO, qV, qB⟩ := hSw); obtain ⟨u0_, u1_, _, _, _⟩ := blk2 qP; go_simp; (try with_reducible rfl)))
                    try simp only [Act.put, List.getElem_toArray, List.getElem_cons_succ, List.getElem_cons_zero, List.setIfInBounds_toArray, List.set_cons_zero, List.set_cons_succ]
                    refine wpAnyH_take (i := 2) (oi := _) (v := ?_) rfl (by kernel_rfl) (by kernel_rfl) (by kernel_rfl) (fun _ _ _ h => h) (Or.inl ⟨by rfl, ?_⟩) (by assumption) ?_
                    (rotate_left); (focus (intro wv hSw; (obtain ⟨qP, qO, qV, qB⟩ := hSw); obtain ⟨u0_, u1_, _, _, _⟩ := blk2 qP; go_simp; (try with_reducible rfl)))
                    try simp only [Act.put, List.getElem_toArray, List.getElem_cons_succ, List.getElem_cons_zero, List.setIfInBounds_toArray, List.set_cons_zero, List.set_cons_succ]
                    refine wpAnyH_take (i := 3) (oi := _) (v := ?_) rfl (by kernel_rfl) (by kernel_rfl) (by kernel_rfl) (fun _ _ _ h => h) (Or.inl ⟨by rfl, ?_⟩) (by assumption) ?_
                    (rotate_left); (focus (intro wv hSw; (obtain ⟨qP, qO, qV, qB⟩ := hSw); obtain ⟨u0_, u1_, _, _, _⟩ := blk2 qP; go_simp; (try with_reducible rfl)))
                    try simp only [Act.put, List.getElem_toArray, List.getElem_cons_succ, List.getElem_cons_zero, List.setIfInBounds_toArray, List.set_cons_zero, List.set_cons_succ]
                    refine wpAnyH_take (i := 4) (oi := _) (v := ?_) rfl (by kernel_rfl) (by kernel_rfl) (by kernel_rfl) (fun _ _ _ h => h) (Or.inl ⟨by rfl, ?_⟩) (by assumption) ?_
                    (rotate_left); (focus (intro wv hSw; (obtain ⟨qP, qO, qV, qB⟩ := hSw); obtain ⟨u0_, u1_, _, _, _⟩ := blk2 qP; go_simp; (try with_reducible rfl)))
                    try simp only [Act.put, List.getElem_toArray, List.getElem_cons_succ, List.getElem_cons_zero, List.setIfInBounds_toArray, List.set_cons_zero, List.set_cons_succ]
                    refine wpAnyH_take (i := 5) (oi := _) (v := ?_) rfl (by kernel_rfl) (by kernel_rfl) (by kernel_rfl) (fun _ _ _ h => h) (Or.inl ⟨by rfl, ?_⟩) (by assumption) ?_
                    (rotate_left); (focus (intro wv hSw; (obtain ⟨qP, qO, qV, qB⟩ := hSw); obtain ⟨u0_, u1_, _, _, _⟩ := blk2 qP; go_simp; (try with_reducible rfl)))
                    try simp only [Act.put, List.getElem_toArray, List.getElem_cons_succ, List.getElem_cons_zero, List.setIfInBounds_toArray, List.set_cons_zero, List.set_cons_succ]
                    refine wpAnyH_take (i := 6) (oi := _) (v := ?_) rfl (by kernel_rfl) (by kernel_rfl) (by kernel_rfl) (fun _ _ _ h => h) (Or.inl ⟨by rfl, ?_⟩) (by assumption) ?_
                    (rotate_left); (focus (intro wv hSw; (obtain ⟨qP, qO, qV, qB⟩ := hSw); obtain ⟨u0_, u1_, _, _, _⟩ := blk2 qP; go_simp; (try with_reducible rfl)))
                    try simp only [Act.put, List.getElem_toArray, List.getElem_cons_succ, List.getElem_cons_zero, List.setIfInBounds_toArray, List.set_cons_zero, List.set_cons_succ]
                    refine wpAnyH_take (i := 7) (oi := _) (v := ?_) rfl (by kernel_rfl) (by kernel_rfl) (by kernel_rfl) (fun _ _ _ h => h) (Or.inl ⟨by rfl, ?_⟩) (by assumption) ?_
                    (rotate_left); (focus (intro wv hSw; (obtain ⟨qP, qO, qV, qB⟩ := hSw); obtain ⟨u0_, u1_, _, _, _⟩ := blk2 qP; go_simp; (try with_reducible rfl)))
                    try simp only [Act.put, List.getElem_toArray, List.getElem_cons_succ, List.getElem_cons_zero, List.setIfInBounds_toArray, List.set_cons_zero, List.set_cons_succ]
                    refine wpAnyH_take (i := 8) (oi := _) (v := ?_) rfl (by kernel_rfl) (by kernel_rfl) (by kernel_rfl) (fun _ _ _ h => h) (Or.inl ⟨by rfl, ?_⟩) (by assumption) ?_
                    (rotate_left); (focus (intro wv hSw; (obtain ⟨qP, qO, qV, qB⟩ := hSw); obtain ⟨u0_, u1_, _, _, _⟩ := blk2 qP; go_simp; (try with_reducible rfl)))
                    try simp only [Act.put, List.getElem_toArray, List.getElem_cons_succ, List.getElem_cons_zero, List.setIfInBounds_toArray, List.set_cons_zero, List.set_cons_succ]
                    refine wpAnyH_take (i := 9) (oi := _) (v := ?_) rfl (by kernel_rfl) (by kernel_rfl) (by kernel_rfl) (fun _ _ _ h => h) (Or.inl ⟨by rfl, ?_⟩) (by assumption) ?_
                    (rotate_left); (focus (intro wv hSw; (obtain ⟨qP, qO, qV, qB⟩ := hSw); obtain ⟨u0_, u1_, _, _, _⟩ := blk2 qP; go_simp; (try with_reducible rfl)))
                    try simp only [Act.put, List.getElem_toArray, List.getElem_cons_succ, List.getElem_cons_zero, List.setIfInBounds_toArray, List.set_cons_zero, List.set_cons_succ]
                    refine wpAnyH_take (i := 10) (oi := _) (v := ?_) rfl (by kernel_rfl) (by kernel_rfl) (by kernel_rfl) (fun _ _ _ h => h) (Or.inl ⟨by rfl, ?_⟩) (by assumption) ?_
                    (rotate_left); (focus (intro wv hSw; (obtain ⟨qP, qO, qV, qB⟩ := hSw); obtain ⟨u0_, u1_, _, _, _⟩ := blk2 qP; go_simp; (try with_reducible rfl)))
                    try simp only [Act.put, List.getElem_toArray, List.getElem_cons_succ, List.getElem_cons_zero, List.setIfInBounds_toArray, List.set_cons_zero, List.set_cons_succ]
                    refine wpAnyH_take (i := 11) (oi := _) (v := ?_) rfl (by kernel_rfl) (by kernel_rfl) (by kernel_rfl) (fun _ _ _ h => h) (Or.inl ⟨by rfl, ?_⟩) (by assumption) ?_
                    (rotate_left); (focus (intro wv hSw; (obtain ⟨qP, qO, qV, qB⟩ := hSw); obtain ⟨u0_, u1_, _, _, _⟩ := blk2 qP; have cA := rowCel qO.row HKX.out HT.out; go_simp; (try with_reducible rfl)))
                    try simp only [Act.put, List.getElem_toArray, List.getElem_cons_succ, List.getElem_cons_zero, List.setIfInBounds_toArray, List.set_cons_zero, List.set_cons_succ]
                    refine wpAnyH_take (i := 12) (oi := _) (v := ?_) rfl (by kernel_rfl) (by kernel_rfl) (by kernel_rfl) (fun _ _ _ h => h) (Or.inl ⟨by rfl, ?_⟩) (by assumption) ?_
                    (rotate_left); (focus (intro wv hSw; (obtain ⟨qP, qO, qV, qB⟩ := hSw); obtain ⟨u0_, u1_, _, _, _⟩ := blk2 qP; have cA := rowCel qO.row HKX.out HT.out; go_simp; (try with_reducible rfl)))
                    try simp only [Act.put, List.getElem_toArray, List.getElem_cons_succ, List.getElem_cons_zero, List.setIfInBounds_toArray, List.set_cons_zero, List.set_cons_succ]
                    refine wpAnyH_take (i := 13) (oi := _) (v := ?_) rfl (by kernel_rfl) (by kernel_rfl) (by kernel_rfl) (fun _ _ _ h => h) (Or.inl ⟨by rfl, ?_⟩) (by assumption) ?_
                    (rotate_left); (focus (intro wv hSw; (obtain ⟨qP, qO, qV, qB⟩ := hSw); obtain ⟨u0_, u1_, _, _, _⟩ := blk2 qP; go_simp; (try with_reducible rfl)))
                    try simp only [Act.put, List.getElem_toArray, List.getElem_cons_succ, List.getElem_cons_zero, List.setIfInBounds_toArray, List.set_cons_zero, List.set_cons_succ]
                    refine wpAnyH_take (i := 14) (oi := _) (v := ?_) rfl (by kernel_rfl) (by kernel_rfl) (by kernel_rfl) (fun _ _ _ h => h) (Or.inl ⟨by rfl, ?_⟩) (by assumption) ?_
                    (rotate_left); (focus (intro wv hSw; (obtain ⟨qP, qO, qV, qB⟩ := hSw); obtain ⟨u0_, u1_, _, _, _⟩ := blk2 qP; go_simp; (try with_reducible rfl)))
                    try simp only [Act.put, List.getElem_toArray, List.getElem_cons_succ, List.getElem_cons_zero, List.setIfInBounds_toArray, List.set_cons_zero, List.set_cons_succ]
                    refine wpAnyH_take (i := 15) (oi := _) (v := ?_) rfl (by kernel_rfl) (by kernel_rfl) (by kernel_rfl) (fun _ _ _ h => h) (Or.inl ⟨by rfl, ?_⟩) (by assumption) ?_
                    (rotate_left); (focus (intro wv hSw; (obtain ⟨qP, qO, qV, qB⟩ := hSw); obtain ⟨u0_, u1_, _, _, _⟩ := blk2 qP; have cV := rowCel qV.row HKQ.out HVV.out; go_simp; (try with_reducible rfl)))
                    try simp only [Act.put, List.getElem_toArray, List.getElem_cons_succ, List.getElem_cons_zero, List.setIfInBounds_toArray, List.set_cons_zero, List.set_cons_succ]
                    refine wpAnyH_take (i := 16) (oi := _) (v := ?_) rfl (by kernel_rfl) (by kernel_rfl) (by kernel_rfl) (fun _ _ _ h => h) (Or.inl ⟨by rfl, ?_⟩) (by assumption) ?_
                    (rotate_left); (focus (intro wv hSw; (obtain ⟨qP, qO, qV, qB⟩ := hSw); obtain ⟨u0_, u1_, _, _, _⟩ := blk2 qP; have cV := rowCel qV.row HKQ.out HVV.out; go_simp; (try with_reducible rfl)))
                    try simp only [Act.put, List.getElem_toArray, List.getElem_cons_succ, List.getElem_cons_zero, List.setIfInBounds_toArray, List.set_cons_zero, List.set_cons_succ]
                    refine wpAnyH_take (i := 17) (oi := _) (v := ?_) rfl (by kernel_rfl) (by kernel_rfl) (by kernel_rfl) (fun _ _ _ h => h) (Or.inl ⟨by rfl, ?_⟩) (by assumption) ?_
                    (rotate_left); (focus (intro wv hSw; (obtain ⟨qP, qO, qV, qB⟩ := hSw); obtain ⟨u0_, u1_, _, _, _⟩ := blk2 qP; go_simp; (try with_reducible rfl)))
                    try simp only [Act.put, List.getElem_toArray, List.getElem_cons_succ, List.getElem_cons_zero, List.setIfInBounds_toArray, List.set_cons_zero, List.set_cons_succ]
                    refine wpAnyH_take (i := 18) (oi := _) (v := ?_) rfl (by kernel_rfl) (by kernel_rfl) (by kernel_rfl) (fun _ _ _ h => h) (Or.inl ⟨by rfl, ?_⟩) (by assumption) ?_
                    (rotate_left); (focus (intro wv hSw; (obtain ⟨qP, qO, qV, qB⟩ := hSw); obtain ⟨u0_, u1_, _, _, _⟩ := blk2 qP; go_simp; (try with_reducible rfl)))
                    try simp only [Act.put, List.getElem_toArray, List.getElem_cons_succ, List.getElem_cons_zero, List.setIfInBounds_toArray, List.set_cons_zero, List.set_cons_succ]
                    refine wpAnyH_take (i := 19) (oi := _) (v := ?_) rfl (by kernel_rfl) (by kernel_rfl) (by kernel_rfl) (fun _ _ _ h => h) (Or.inl ⟨by rfl, ?_⟩) (by assumption) ?_
                    (rotate_left); (focus (intro wv hSw; (obtain ⟨qP, qO, qV, qB⟩ := hSw); obtain ⟨u0_, u1_, _, _, _⟩ := blk2 qP; go_simp; (try with_reducible rfl)))
                    try simp only [Act.put, List.getElem_toArray, List.getElem_cons_succ, List.getElem_cons_zero, List.setIfInBounds_toArray, List.set_cons_zero, List.set_cons_succ]
                    refine wpAnyH_done (by kernel_rfl) ?_ _
                    have hw1 : IntKind.i64.wrap (t + 1) = t + 1 := IntWalk.i64_in _ (by omega)
                    have hP8 := hP_0
                    have hO8 := hO_0
                    have hB8 := hB_0
                    go_wp2_with fail
                    refine wp_region_held_drew (S := (fun w' => w'.heap[w1.heap.size]? = some (.cells #[.int .i64 d, .slice (some ⟨b1, off1, none⟩) m cp] 25) ∧ SOwn encNum w' w.heap.size 3 (some ⟨b1, off1, none⟩) cp xs ∧ Below w.heap.size w w')) (by kernel_rfl) ⟨hP8, hO8.drew, hB8.drew⟩ (fun hHeld => ?_)
                    obtain ⟨hP_0, hO_0, hB_0⟩ := id hHeld
                    refine wpAnyH_take (i := 0) (oi := _) (v := ?_) rfl (by kernel_rfl) (by kernel_rfl) (by kernel_rfl) (fun _ _ _ h => h) (Or.inl ⟨by rfl, ?_⟩) (by assumption) ?_
                    (rotate_left); (focus (intro wv hSw; (obtain ⟨qP, qO, qB⟩ := hSw); obtain ⟨u0_, u1_, _, _, _⟩ := blk2 qP; go_simp; (try with_reducible rfl)))
                    try simp only [Act.put, List.getElem_toArray, List.getElem_cons_succ, List.getElem_cons_zero, List.setIfInBounds_toArray, List.set_cons_zero, List.set_cons_succ]
                    refine wpAnyH_take (i := 1) (oi := _) (v := ?_) rfl (by kernel_rfl) (by kernel_rfl) (by kernel_rfl) (fun _ _ _ h => h) (Or.inl ⟨by rfl, ?_⟩) (by assumption) ?_
                    (rotate_left); (focus (intro wv hSw; (obtain ⟨qP, qO, qB⟩ := hSw); obtain ⟨u0_, u1_, _, _, _⟩ := blk2 qP; go_simp; (try with_reducible rfl)))
                    try simp only [Act.put, List.getElem_toArray, List.getElem_cons_succ, List.getElem_cons_zero, List.setIfInBounds_toArray, List.set_cons_zero, List.set_cons_succ]
                    refine wpAnyH_take (i := 2) (oi := _) (v := ?_) rfl (by kernel_rfl) (by kernel_rfl) (by kernel_rfl) (fun _ _ _ h => h) (Or.inl ⟨by rfl, ?_⟩) (by assumption) ?_
                    (rotate_left); (focus (intro wv hSw; (obtain ⟨qP, qO, qB⟩ := hSw); obtain ⟨u0_, u1_, _, _, _⟩ := blk2 qP; go_simp; (try with_reducible rfl)))
                    try simp only [Act.put, List.getElem_toArray, List.getElem_cons_succ, List.getElem_cons_zero, List.setIfInBounds_toArray, List.set_cons_zero, List.set_cons_succ]
                    refine wpAnyH_take (i := 3) (oi := _) (v := ?_) rfl (by kernel_rfl) (by kernel_rfl) (by kernel_rfl) (fun _ _ _ h => h) (Or.inl ⟨by rfl, ?_⟩) (by assumption) ?_
                    (rotate_left); (focus (intro wv hSw; (obtain ⟨qP, qO, qB⟩ := hSw); obtain ⟨u0_, u1_, _, _, _⟩ := blk2 qP; go_simp; (try with_reducible rfl)))
                    try simp only [Act.put, List.getElem_toArray, List.getElem_cons_succ, List.getElem_cons_zero, List.setIfInBounds_toArray, List.set_cons_zero, List.set_cons_succ]
                    refine wpAnyH_take (i := 4) (oi := _) (v := ?_) rfl (by kernel_rfl) (by kernel_rfl) (by kernel_rfl) (fun _ _ _ h => h) (Or.inl ⟨by rfl, ?_⟩) (by assumption) ?_
                    (rotate_left); (focus (intro wv hSw; (obtain ⟨qP, qO, qB⟩ := hSw); obtain ⟨u0_, u1_, _, _, _⟩ := blk2 qP; go_simp; (try with_reducible rfl)))
                    try simp only [Act.put, List.getElem_toArray, List.getElem_cons_succ, List.getElem_cons_zero, List.setIfInBounds_toArray, List.set_cons_zero, List.set_cons_succ]
                    refine wpAnyH_take (i := 5) (oi := _) (v := ?_) rfl (by kernel_rfl) (by kernel_rfl) (by kernel_rfl) (fun _ _ _ h => h) (Or.inl ⟨by rfl, ?_⟩) (by assumption) ?_
                    (rotate_left); (focus (intro wv hSw; (obtain ⟨qP, qO, qB⟩ := hSw); obtain ⟨u0_, u1_, _, _, _⟩ := blk2 qP; have cA := rowCel qO.row HKX.out HT.out; go_simp; (try with_reducible rfl)))
                    try simp only [Act.put, List.getElem_toArray, List.getElem_cons_succ, List.getElem_cons_zero, List.setIfInBounds_toArray, List.set_cons_zero, List.set_cons_succ]
                    refine wpAnyH_take (i := 6) (oi := _) (v := ?_) rfl (by kernel_rfl) (by kernel_rfl) (by kernel_rfl) (fun _ _ _ h => h) (Or.inl ⟨by rfl, ?_⟩) (by assumption) ?_
                    (rotate_left); (focus (intro wv hSw; (obtain ⟨qP, qO, qB⟩ := hSw); obtain ⟨u0_, u1_, _, _, _⟩ := blk2 qP; have cA := rowCel qO.row HKX.out HT.out; go_simp; (try with_reducible rfl)))
                    try simp only [Act.put, List.getElem_toArray, List.getElem_cons_succ, List.getElem_cons_zero, List.setIfInBounds_toArray, List.set_cons_zero, List.set_cons_succ]
                    refine wpAnyH_take (i := 7) (oi := _) (v := ?_) rfl (by kernel_rfl) (by kernel_rfl) (by kernel_rfl) (fun _ _ _ h => h) (Or.inl ⟨by rfl, ?_⟩) (by assumption) ?_
                    (rotate_left); (focus (intro wv hSw; (obtain ⟨qP, qO, qB⟩ := hSw); obtain ⟨u0_, u1_, _, _, _⟩ := blk2 qP; go_simp; (try with_reducible rfl)))
                    try simp only [Act.put, List.getElem_toArray, List.getElem_cons_succ, List.getElem_cons_zero, List.setIfInBounds_toArray, List.set_cons_zero, List.set_cons_succ]
                    refine wpAnyH_ready (rs := [8, 12]) (by kernel_rfl) (by simp) ?_
                    refine AllReadyH.cons (o := _) rfl (fun K hK => ?_) (AllReadyH.cons (o := _) rfl (fun K hK => ?_) AllReadyH.nil)
                    · go_simp
                      (go_at_call 23; refine (iCset_len d _ cp xs k (t + 1) _ HM.out hO_0.row (by omega) HSB.out HSD.out HSL.out HSQ.out).mono ?_; rintro e x0c ⟨U9, c9, rfl, hU_0c, hw_0c⟩)
                      refine hK.out _ _ ⟨blk_next hP_0 hw_0c, hO_0.next hw_0c, bel_next hB_0 hw_0c⟩ (fun hHeld => ?_)
                      clear hK K
                      try simp only [Act.put, List.getElem_toArray, List.getElem_cons_succ, List.getElem_cons_zero, List.setIfInBounds_toArray, List.set_cons_zero, List.set_cons_succ]
                      obtain ⟨hP_0c, hO_0c, hB_0c⟩ := id hHeld
                      have hU_0c := hU_0c.mono (base' := w.heap.size) hB_0.size
                      refine wpAnyH_take (i := 9) (oi := _) (v := ?_) rfl (by kernel_rfl) (by kernel_rfl) (by kernel_rfl) (fun _ _ _ h => h) (Or.inl ⟨by rfl, ?_⟩) (by assumption) ?_
                      (rotate_left); (focus (intro wv hSw; (obtain ⟨qP, qO, qB⟩ := hSw); obtain ⟨u0_, u1_, _, _, _⟩ := blk2 qP; go_simp; (try with_reducible rfl)))
                      try simp only [Act.put, List.getElem_toArray, List.getElem_cons_succ, List.getElem_cons_zero, List.setIfInBounds_toArray, List.set_cons_zero, List.set_cons_succ]
                      refine wpAnyH_take (i := 10) (oi := _) (v := ?_) rfl (by kernel_rfl) (by kernel_rfl) (by kernel_rfl) (fun _ _ _ h => h) (Or.inl ⟨by rfl, ?_⟩) (by assumption) ?_
                      (rotate_left); (focus (intro wv hSw; (obtain ⟨qP, qO, qB⟩ := hSw); obtain ⟨u0_, u1_, _, _, _⟩ := blk2 qP; go_simp; (try with_reducible rfl)))
                      try simp only [Act.put, List.getElem_toArray, List.getElem_cons_succ, List.getElem_cons_zero, List.setIfInBounds_toArray, List.set_cons_zero, List.set_cons_succ]
                      refine wpAnyH_take (i := 11) (oi := _) (v := ?_) rfl (by kernel_rfl) (by kernel_rfl) (by kernel_rfl) (fun _ _ _ h => h) (Or.inl ⟨by rfl, ?_⟩) (by assumption) ?_
                      (rotate_left); (focus (intro wv hSw; (obtain ⟨qP, qO, qB⟩ := hSw); obtain ⟨u0_, u1_, _, _, _⟩ := blk2 qP; go_simp; (try with_reducible rfl)))
                      try simp only [Act.put, List.getElem_toArray, List.getElem_cons_succ, List.getElem_cons_zero, List.setIfInBounds_toArray, List.set_cons_zero, List.set_cons_succ]
                      refine wpAnyH_ready (rs := [12]) (by kernel_rfl) (by simp) ?_
                      refine AllReadyH.cons (o := _) rfl (fun K hK => ?_) AllReadyH.nil
                      go_simp
                      refine hK.out _ _ ⟨blk_next hP_0c (bel1 _ _), hO_0c.next (bel1 _ _), bel_next hB_0c (bel1 _ _)⟩ (fun hHeld => ?_)
                      clear hK K
                      try simp only [Act.put, List.getElem_toArray, List.getElem_cons_succ, List.getElem_cons_zero, List.setIfInBounds_toArray, List.set_cons_zero, List.set_cons_succ]
                      obtain ⟨hP_0ca, hO_0ca, hB_0ca⟩ := id hHeld
                      have hN_0ca : (x0c.alloc (.cells #[.int .i64 0, .slice none 0 0] 25)).heap[x0c.heap.size]? = some (.cells #[.int .i64 0, .slice none 0 0] 25) := by have := blk_new (x0c) (.cells #[.int .i64 0, .slice none 0 0] 25); simpa using this
                      have zP_0ca : w1.heap.size < x0c.heap.size := by have := blk_lt hP_0c; simpa using this
                      have zB_0ca : w.heap.size ≤ x0c.heap.size := by have := hB_0c.size; simpa using this
                      have hU_0ca := hU_0c.next (bel1 (x0c) (.cells #[.int .i64 0, .slice none 0 0] 25))
                      refine wpAnyH_ready (rs := [13]) (by kernel_rfl) (by simp) ?_
                      refine AllReadyH.cons (o := _) rfl (fun K hK => ?_) AllReadyH.nil
                      obtain ⟨sc0, sc1, sf0, sf1, sz_⟩ := blk2 hN_0ca
                      go_simp
                      refine hK.out _ _ ⟨blk_next hP_0c (bel1 _ _), hO_0c.next (bel1 _ _), bel_next hB_0c (bel1 _ _)⟩ (fun hHeld => ?_)
                      clear hK K
                      try simp only [Act.put, List.getElem_toArray, List.getElem_cons_succ, List.getElem_cons_zero, List.setIfInBounds_toArray, List.set_cons_zero, List.set_cons_succ]
                      obtain ⟨hP_0cw, hO_0cw, hB_0cw⟩ := id hHeld
                      have hN_0cw : (x0c.alloc (.cells #[.int .i64 g, .slice U9 q c9] 25)).heap[x0c.heap.size]? = some (.cells #[.int .i64 g, .slice U9 q c9] 25) := by have := blk_new (x0c) (.cells #[.int .i64 g, .slice U9 q c9] 25); simpa using this
                      have hU_0cw := hU_0c.next (bel1 (x0c) (.cells #[.int .i64 g, .slice U9 q c9] 25))
                      refine wpAnyH_take (i := 14) (oi := _) (v := ?_) rfl (by kernel_rfl) (by kernel_rfl) (by kernel_rfl) (fun _ _ _ h => h) (Or.inl ⟨by rfl, ?_⟩) (by assumption) ?_
                      (rotate_left); (focus (intro wv hSw; (obtain ⟨qP, qO, qB⟩ := hSw); obtain ⟨u0_, u1_, _, _, _⟩ := blk2 qP; go_simp; (try with_reducible rfl)))
                      try simp only [Act.put, List.getElem_toArray, List.getElem_cons_succ, List.getElem_cons_zero, List.setIfInBounds_toArray, List.set_cons_zero, List.set_cons_succ]
                      refine wpAnyH_done (by kernel_rfl) ?_ _
                      have hP9 := hP_0cw
                      have hN9 := hN_0cw
                      have hO9 := hO_0cw
                      have hU9 := hU_0cw
                      have hB9 := hB_0cw
                      clear hw1
                      obtain ⟨x0_, x1_, _, _, _⟩ := blk2 hP9
                      obtain ⟨y0_, y1_, _, _, _⟩ := blk2 hN9
                      go_wp2_with fail
                      go_ret
                      exact ⟨rfl, hB9⟩
                    · go_simp
                      refine hK.out _ _ ⟨blk_next hP_0 (bel1 _ _), hO_0.next (bel1 _ _), bel_next hB_0 (bel1 _ _)⟩ (fun hHeld => ?_)
                      clear hK K
                      try simp only [Act.put, List.getElem_toArray, List.getElem_cons_succ, List.getElem_cons_zero, List.setIfInBounds_toArray, List.set_cons_zero, List.set_cons_succ]
                      obtain ⟨hP_0a, hO_0a, hB_0a⟩ := id hHeld
                      have hN_0a : (w5.drew.drew.alloc (.cells #[.int .i64 0, .slice none 0 0] 25)).heap[w5.heap.size]? = some (.cells #[.int .i64 0, .slice none 0 0] 25) := by have := blk_new (w5.drew.drew) (.cells #[.int .i64 0, .slice none 0 0] 25); simpa using this
                      have zP_0a : w1.heap.size < w5.heap.size := by have := blk_lt hP_0; simpa using this
                      have zB_0a : w.heap.size ≤ w5.heap.size := by have := hB_0.size; simpa using this
                      refine wpAnyH_ready (rs := [8]) (by kernel_rfl) (by simp) ?_
                      refine AllReadyH.cons (o := _) rfl (fun K hK => ?_) AllReadyH.nil
                      go_simp
                      (go_at_call 23; refine (iCset_len d _ cp xs k (t + 1) _ HM.out hO_0a.row (by omega) HSB.out HSD.out HSL.out HSQ.out).mono ?_; rintro e x0ac ⟨U9, c9, rfl, hU_0ac, hw_0ac⟩)
                      refine hK.out _ _ ⟨blk_next hP_0a hw_0ac, hO_0a.next hw_0ac, bel_next hB_0a hw_0ac⟩ (fun hHeld => ?_)
                      clear hK K
                      try simp only [Act.put, List.getElem_toArray, List.getElem_cons_succ, List.getElem_cons_zero, List.setIfInBounds_toArray, List.set_cons_zero, List.set_cons_succ]
                      obtain ⟨hP_0ac, hO_0ac, hB_0ac⟩ := id hHeld
                      have hU_0ac := hU_0ac.mono (base' := w.heap.size) hB_0a.size
                      have hN_0ac := blk_next hN_0a hw_0ac
                      refine wpAnyH_take (i := 9) (oi := _) (v := ?_) rfl (by kernel_rfl) (by kernel_rfl) (by kernel_rfl) (fun _ _ _ h => h) (Or.inl ⟨by rfl, ?_⟩) (by assumption) ?_
                      (rotate_left); (focus (intro wv hSw; (obtain ⟨qP, qO, qB⟩ := hSw); obtain ⟨u0_, u1_, _, _, _⟩ := blk2 qP; go_simp; (try with_reducible rfl)))
                      try simp only [Act.put, List.getElem_toArray, List.getElem_cons_succ, List.getElem_cons_zero, List.setIfInBounds_toArray, List.set_cons_zero, List.set_cons_succ]
                      refine wpAnyH_take (i := 10) (oi := _) (v := ?_) rfl (by kernel_rfl) (by kernel_rfl) (by kernel_rfl) (fun _ _ _ h => h) (Or.inl ⟨by rfl, ?_⟩) (by assumption) ?_
                      (rotate_left); (focus (intro wv hSw; (obtain ⟨qP, qO, qB⟩ := hSw); obtain ⟨u0_, u1_, _, _, _⟩ := blk2 qP; go_simp; (try with_reducible rfl)))
                      try simp only [Act.put, List.getElem_toArray, List.getElem_cons_succ, List.getElem_cons_zero, List.setIfInBounds_toArray, List.set_cons_zero, List.set_cons_succ]
                      refine wpAnyH_take (i := 11) (oi := _) (v := ?_) rfl (by kernel_rfl) (by kernel_rfl) (by kernel_rfl) (fun _ _ _ h => h) (Or.inl ⟨by rfl, ?_⟩) (by assumption) ?_
                      (rotate_left); (focus (intro wv hSw; (obtain ⟨qP, qO, qB⟩ := hSw); obtain ⟨u0_, u1_, _, _, _⟩ := blk2 qP; go_simp; (try with_reducible rfl)))
                      try simp only [Act.put, List.getElem_toArray, List.getElem_cons_succ, List.getElem_cons_zero, List.setIfInBounds_toArray, List.set_cons_zero, List.set_cons_succ]
                      refine wpAnyH_ready (rs := [13]) (by kernel_rfl) (by simp) ?_
                      refine AllReadyH.cons (o := _) rfl (fun K hK => ?_) AllReadyH.nil
                      obtain ⟨sc0, sc1, sf0, sf1, sz_⟩ := blk2 hN_0ac
                      go_simp
                      refine hK.out _ _ ⟨blk_store2 hP_0ac (Nat.ne_of_lt zP_0a) _ _, SOwn.boxO hO_0ac hN_0ac (by decide) _ _, store2_bel hB_0ac zB_0a _ _⟩ (fun hHeld => ?_)
                      clear hK K
                      try simp only [Act.put, List.getElem_toArray, List.getElem_cons_succ, List.getElem_cons_zero, List.setIfInBounds_toArray, List.set_cons_zero, List.set_cons_succ]
                      obtain ⟨hP_0acw, hO_0acw, hB_0acw⟩ := id hHeld
                      have hN_0acw := blk2_set (a := (.int .i64 g)) (b := (.slice U9 q c9)) hN_0ac
                      have hU_0acw := SOwn.boxO hU_0ac hN_0ac (by decide) ((.int .i64 g)) ((.slice U9 q c9))
                      refine wpAnyH_take (i := 14) (oi := _) (v := ?_) rfl (by kernel_rfl) (by kernel_rfl) (by kernel_rfl) (fun _ _ _ h => h) (Or.inl ⟨by rfl, ?_⟩) (by assumption) ?_
                      (rotate_left); (focus (intro wv hSw; (obtain ⟨qP, qO, qB⟩ := hSw); obtain ⟨u0_, u1_, _, _, _⟩ := blk2 qP; go_simp; (try with_reducible rfl)))
                      try simp only [Act.put, List.getElem_toArray, List.getElem_cons_succ, List.getElem_cons_zero, List.setIfInBounds_toArray, List.set_cons_zero, List.set_cons_succ]
                      refine wpAnyH_done (by kernel_rfl) ?_ _
                      have hP9 := hP_0acw
                      have hN9 := hN_0acw
                      have hO9 := hO_0acw
                      have hU9 := hU_0acw
                      have hB9 := hB_0acw
                      clear hw1
                      obtain ⟨x0_, x1_, _, _, _⟩ := blk2 hP9
                      obtain ⟨y0_, y1_, _, _, _⟩ := blk2 hN9
                      go_wp2_with fail
                      go_ret
                      exact ⟨rfl, hB9⟩
                  · have hdf : daB d xs (k : Int) e f = false := by rw [hdv]; simp [hlt]
                    have HDR := Lib.hid hdf
                    have HF : Hid (daB d xs (k : Int) e (f + 1) = false) := Lib.hid (da_fall hv hce hdf)
                    cases b
                    · clear hv hce hs hvv htt hsv hdv hb hg hl hq hh hdf
                      have hP1 : (w1.alloc (.cells #[.int .i64 d, .slice A m cp] 25)).heap[w1.heap.size]? = some (.cells #[.int .i64 d, .slice A m cp] 25) := by have := blk_new (w1) (.cells #[.int .i64 d, .slice A m cp] 25); simpa using this
                      have hB1 := hB0.alloc hB0.size (.cells #[.int .i64 d, .slice A m cp] 25)
                      have hO1 := hO0.next (bel1 _ (.cells #[.int .i64 d, .slice A m cp] 25))
                      have zBP := hB0.size
                      obtain ⟨cP1_0, cP1_1, fP1_0, fP1_1, zP1⟩ := blk2 hP1
                      go_wp2_with fail
                      refine (iDk_is d A cp xs k e f _ HM.out hO1.row (by omega) HDR.out).mono ?_; rintro e' w2 ⟨rfl, hw2⟩
                      have hP2 := blk_next hP1 hw2
                      have hO2 := hO1.next hw2
                      have hB2 := bel_next hB1 hw2
                      obtain ⟨cP2_0, cP2_1, fP2_0, fP2_1, zP2⟩ := blk2 hP2
                      go_wp2_with fail
                      refine (sDk_is d A cp xs k e f _ HM.out hO2.row (by omega) HDR.out).mono ?_; rintro e' w3 ⟨rfl, hw3⟩
                      have hP3 := blk_next hP2 hw3
                      have hO3 := hO2.next hw3
                      have hB3 := bel_next hB2 hw3
                      obtain ⟨cP3_0, cP3_1, fP3_0, fP3_1, zP3⟩ := blk2 hP3
                      go_wp2_with fail
                      refine (sCv_is d A cp xs _ HM.out hO3.row (by omega) HCV.out).mono ?_; rintro e' w4 ⟨rfl, hw4⟩
                      have hP4 := blk_next hP3 hw4
                      have hO4 := hO3.next hw4
                      have hB4 := bel_next hB3 hw4
                      obtain ⟨cP4_0, cP4_1, fP4_0, fP4_1, zP4⟩ := blk2 hP4
                      go_wp2_with fail
                      refine (iSh_len d A cp xs e f _ HM.out hO4.row (by omega) HL.out HQ.out).mono ?_; rintro e' w5 ⟨V, cv, rfl, hV5, hw5⟩
                      have hP5 := blk_next hP4 hw5
                      have hO5 := hO4.next hw5
                      have hB5 := bel_next hB4 hw5
                      have hV5 := hV5.mono (base' := w.heap.size) hB4.size
                      obtain ⟨cP5_0, cP5_1, fP5_0, fP5_1, zP5⟩ := blk2 hP5
                      obtain ⟨b1, off1, rfl, _, cA⟩ := rowNum hO5.row HKX.out
                      obtain ⟨b2, off2, rfl, _, cV⟩ := rowNum hV5.row HKQ.out
                      clear cA cV
                      go_wp2_with fail
                      refine wp_region_held_drew (S := (fun w' => w'.heap[w1.heap.size]? = some (.cells #[.int .i64 d, .slice (some ⟨b1, off1, none⟩) m cp] 25) ∧ SOwn encNum w' w.heap.size 3 (some ⟨b1, off1, none⟩) cp xs ∧ SOwn encNum w' w.heap.size 3 (some ⟨b2, off2, none⟩) cv s ∧ Below w.heap.size w w')) (by kernel_rfl) ⟨hP5, hO5.drew, hV5.drew, hB5.drew⟩ (fun hHeld => ?_)
                      obtain ⟨hP_0, hO_0, hV_0, hB_0⟩ := id hHeld
                      refine wpAnyH_take (i := 0) (oi := _) (v := ?_) rfl (by kernel_rfl) (by kernel_rfl) (by kernel_rfl) (fun _ _ _ h => h) (Or.inl ⟨by rfl, ?_⟩) (by assumption) ?_
                      (rotate_left); (focus (intro wv hSw; (obtain ⟨qP, qO, qV, qB⟩ := hSw); obtain ⟨u0_, u1_, _, _, _⟩ := blk2 qP; go_simp; (try with_reducible rfl)))
                      try simp only [Act.put, List.getElem_toArray, List.getElem_cons_succ, List.getElem_cons_zero, List.setIfInBounds_toArray, List.set_cons_zero, List.set_cons_succ]
                      refine wpAnyH_take (i := 1) (oi := _) (v := ?_) rfl (by kernel_rfl) (by kernel_rfl) (by kernel_rfl) (fun _ _ _ h => h) (Or.inl ⟨by rfl, ?_⟩) (by assumption) ?_
                      (rotate_left); (focus (intro wv hSw; (obtain ⟨qP, qO, qV, qB⟩ := hSw); obtain ⟨u0_, u1_, _, _, _⟩ := blk2 qP; go_simp; (try with_reducible rfl)))
                      try simp only [Act.put, List.getElem_toArray, List.getElem_cons_succ, List.getElem_cons_zero, List.setIfInBounds_toArray, List.set_cons_zero, List.set_cons_succ]
                      refine wpAnyH_take (i := 2) (oi := _) (v := ?_) rfl (by kernel_rfl) (by kernel_rfl) (by kernel_rfl) (fun _ _ _ h => h) (Or.inl ⟨by rfl, ?_⟩) (by assumption) ?_
                      (rotate_left); (focus (intro wv hSw; (obtain ⟨qP, qO, qV, qB⟩ := hSw); obtain ⟨u0_, u1_, _, _, _⟩ := blk2 qP; go_simp; (try with_reducible rfl)))
                      try simp only [Act.put, List.getElem_toArray, List.getElem_cons_succ, List.getElem_cons_zero, List.setIfInBounds_toArray, List.set_cons_zero, List.set_cons_succ]
                      refine wpAnyH_take (i := 3) (oi := _) (v := ?_) rfl (by kernel_rfl) (by kernel_rfl) (by kernel_rfl) (fun _ _ _ h => h) (Or.inl ⟨by rfl, ?_⟩) (by assumption) ?_
                      (rotate_left); (focus (intro wv hSw; (obtain ⟨qP, qO, qV, qB⟩ := hSw); obtain ⟨u0_, u1_, _, _, _⟩ := blk2 qP; go_simp; (try with_reducible rfl)))
                      try simp only [Act.put, List.getElem_toArray, List.getElem_cons_succ, List.getElem_cons_zero, List.setIfInBounds_toArray, List.set_cons_zero, List.set_cons_succ]
                      refine wpAnyH_take (i := 4) (oi := _) (v := ?_) rfl (by kernel_rfl) (by kernel_rfl) (by kernel_rfl) (fun _ _ _ h => h) (Or.inl ⟨by rfl, ?_⟩) (by assumption) ?_
                      (rotate_left); (focus (intro wv hSw; (obtain ⟨qP, qO, qV, qB⟩ := hSw); obtain ⟨u0_, u1_, _, _, _⟩ := blk2 qP; go_simp; (try with_reducible rfl)))
                      try simp only [Act.put, List.getElem_toArray, List.getElem_cons_succ, List.getElem_cons_zero, List.setIfInBounds_toArray, List.set_cons_zero, List.set_cons_succ]
                      refine wpAnyH_take (i := 5) (oi := _) (v := ?_) rfl (by kernel_rfl) (by kernel_rfl) (by kernel_rfl) (fun _ _ _ h => h) (Or.inl ⟨by rfl, ?_⟩) (by assumption) ?_
                      (rotate_left); (focus (intro wv hSw; (obtain ⟨qP, qO, qV, qB⟩ := hSw); obtain ⟨u0_, u1_, _, _, _⟩ := blk2 qP; go_simp; (try with_reducible rfl)))
                      try simp only [Act.put, List.getElem_toArray, List.getElem_cons_succ, List.getElem_cons_zero, List.setIfInBounds_toArray, List.set_cons_zero, List.set_cons_succ]
                      refine wpAnyH_take (i := 6) (oi := _) (v := ?_) rfl (by kernel_rfl) (by kernel_rfl) (by kernel_rfl) (fun _ _ _ h => h) (Or.inl ⟨by rfl, ?_⟩) (by assumption) ?_
                      (rotate_left); (focus (intro wv hSw; (obtain ⟨qP, qO, qV, qB⟩ := hSw); obtain ⟨u0_, u1_, _, _, _⟩ := blk2 qP; go_simp; (try with_reducible rfl)))
                      try simp only [Act.put, List.getElem_toArray, List.getElem_cons_succ, List.getElem_cons_zero, List.setIfInBounds_toArray, List.set_cons_zero, List.set_cons_succ]
                      refine wpAnyH_take (i := 7) (oi := _) (v := ?_) rfl (by kernel_rfl) (by kernel_rfl) (by kernel_rfl) (fun _ _ _ h => h) (Or.inl ⟨by rfl, ?_⟩) (by assumption) ?_
                      (rotate_left); (focus (intro wv hSw; (obtain ⟨qP, qO, qV, qB⟩ := hSw); obtain ⟨u0_, u1_, _, _, _⟩ := blk2 qP; go_simp; (try with_reducible rfl)))
                      try simp only [Act.put, List.getElem_toArray, List.getElem_cons_succ, List.getElem_cons_zero, List.setIfInBounds_toArray, List.set_cons_zero, List.set_cons_succ]
                      refine wpAnyH_take (i := 8) (oi := _) (v := ?_) rfl (by kernel_rfl) (by kernel_rfl) (by kernel_rfl) (fun _ _ _ h => h) (Or.inl ⟨by rfl, ?_⟩) (by assumption) ?_
                      (rotate_left); (focus (intro wv hSw; (obtain ⟨qP, qO, qV, qB⟩ := hSw); obtain ⟨u0_, u1_, _, _, _⟩ := blk2 qP; go_simp; (try with_reducible rfl)))
                      try simp only [Act.put, List.getElem_toArray, List.getElem_cons_succ, List.getElem_cons_zero, List.setIfInBounds_toArray, List.set_cons_zero, List.set_cons_succ]
                      refine wpAnyH_take (i := 9) (oi := _) (v := ?_) rfl (by kernel_rfl) (by kernel_rfl) (by kernel_rfl) (fun _ _ _ h => h) (Or.inl ⟨by rfl, ?_⟩) (by assumption) ?_
                      (rotate_left); (focus (intro wv hSw; (obtain ⟨qP, qO, qV, qB⟩ := hSw); obtain ⟨u0_, u1_, _, _, _⟩ := blk2 qP; go_simp; (try with_reducible rfl)))
                      try simp only [Act.put, List.getElem_toArray, List.getElem_cons_succ, List.getElem_cons_zero, List.setIfInBounds_toArray, List.set_cons_zero, List.set_cons_succ]
                      refine wpAnyH_take (i := 10) (oi := _) (v := ?_) rfl (by kernel_rfl) (by kernel_rfl) (by kernel_rfl) (fun _ _ _ h => h) (Or.inl ⟨by rfl, ?_⟩) (by assumption) ?_
                      (rotate_left); (focus (intro wv hSw; (obtain ⟨qP, qO, qV, qB⟩ := hSw); obtain ⟨u0_, u1_, _, _, _⟩ := blk2 qP; go_simp; (try with_reducible rfl)))
                      try simp only [Act.put, List.getElem_toArray, List.getElem_cons_succ, List.getElem_cons_zero, List.setIfInBounds_toArray, List.set_cons_zero, List.set_cons_succ]
                      refine wpAnyH_take (i := 11) (oi := _) (v := ?_) rfl (by kernel_rfl) (by kernel_rfl) (by kernel_rfl) (fun _ _ _ h => h) (Or.inl ⟨by rfl, ?_⟩) (by assumption) ?_
                      (rotate_left); (focus (intro wv hSw; (obtain ⟨qP, qO, qV, qB⟩ := hSw); obtain ⟨u0_, u1_, _, _, _⟩ := blk2 qP; have cA := rowCel qO.row HKX.out HT.out; go_simp; (try with_reducible rfl)))
                      try simp only [Act.put, List.getElem_toArray, List.getElem_cons_succ, List.getElem_cons_zero, List.setIfInBounds_toArray, List.set_cons_zero, List.set_cons_succ]
                      refine wpAnyH_take (i := 12) (oi := _) (v := ?_) rfl (by kernel_rfl) (by kernel_rfl) (by kernel_rfl) (fun _ _ _ h => h) (Or.inl ⟨by rfl, ?_⟩) (by assumption) ?_
                      (rotate_left); (focus (intro wv hSw; (obtain ⟨qP, qO, qV, qB⟩ := hSw); obtain ⟨u0_, u1_, _, _, _⟩ := blk2 qP; have cA := rowCel qO.row HKX.out HT.out; go_simp; (try with_reducible rfl)))
                      try simp only [Act.put, List.getElem_toArray, List.getElem_cons_succ, List.getElem_cons_zero, List.setIfInBounds_toArray, List.set_cons_zero, List.set_cons_succ]
                      refine wpAnyH_take (i := 13) (oi := _) (v := ?_) rfl (by kernel_rfl) (by kernel_rfl) (by kernel_rfl) (fun _ _ _ h => h) (Or.inl ⟨by rfl, ?_⟩) (by assumption) ?_
                      (rotate_left); (focus (intro wv hSw; (obtain ⟨qP, qO, qV, qB⟩ := hSw); obtain ⟨u0_, u1_, _, _, _⟩ := blk2 qP; go_simp; (try with_reducible rfl)))
                      try simp only [Act.put, List.getElem_toArray, List.getElem_cons_succ, List.getElem_cons_zero, List.setIfInBounds_toArray, List.set_cons_zero, List.set_cons_succ]
                      refine wpAnyH_take (i := 14) (oi := _) (v := ?_) rfl (by kernel_rfl) (by kernel_rfl) (by kernel_rfl) (fun _ _ _ h => h) (Or.inl ⟨by rfl, ?_⟩) (by assumption) ?_
                      (rotate_left); (focus (intro wv hSw; (obtain ⟨qP, qO, qV, qB⟩ := hSw); obtain ⟨u0_, u1_, _, _, _⟩ := blk2 qP; go_simp; (try with_reducible rfl)))
                      try simp only [Act.put, List.getElem_toArray, List.getElem_cons_succ, List.getElem_cons_zero, List.setIfInBounds_toArray, List.set_cons_zero, List.set_cons_succ]
                      refine wpAnyH_take (i := 15) (oi := _) (v := ?_) rfl (by kernel_rfl) (by kernel_rfl) (by kernel_rfl) (fun _ _ _ h => h) (Or.inl ⟨by rfl, ?_⟩) (by assumption) ?_
                      (rotate_left); (focus (intro wv hSw; (obtain ⟨qP, qO, qV, qB⟩ := hSw); obtain ⟨u0_, u1_, _, _, _⟩ := blk2 qP; have cV := rowCel qV.row HKQ.out HVV.out; go_simp; (try with_reducible rfl)))
                      try simp only [Act.put, List.getElem_toArray, List.getElem_cons_succ, List.getElem_cons_zero, List.setIfInBounds_toArray, List.set_cons_zero, List.set_cons_succ]
                      refine wpAnyH_take (i := 16) (oi := _) (v := ?_) rfl (by kernel_rfl) (by kernel_rfl) (by kernel_rfl) (fun _ _ _ h => h) (Or.inl ⟨by rfl, ?_⟩) (by assumption) ?_
                      (rotate_left); (focus (intro wv hSw; (obtain ⟨qP, qO, qV, qB⟩ := hSw); obtain ⟨u0_, u1_, _, _, _⟩ := blk2 qP; have cV := rowCel qV.row HKQ.out HVV.out; go_simp; (try with_reducible rfl)))
                      try simp only [Act.put, List.getElem_toArray, List.getElem_cons_succ, List.getElem_cons_zero, List.setIfInBounds_toArray, List.set_cons_zero, List.set_cons_succ]
                      refine wpAnyH_take (i := 17) (oi := _) (v := ?_) rfl (by kernel_rfl) (by kernel_rfl) (by kernel_rfl) (fun _ _ _ h => h) (Or.inl ⟨by rfl, ?_⟩) (by assumption) ?_
                      (rotate_left); (focus (intro wv hSw; (obtain ⟨qP, qO, qV, qB⟩ := hSw); obtain ⟨u0_, u1_, _, _, _⟩ := blk2 qP; go_simp; (try with_reducible rfl)))
                      try simp only [Act.put, List.getElem_toArray, List.getElem_cons_succ, List.getElem_cons_zero, List.setIfInBounds_toArray, List.set_cons_zero, List.set_cons_succ]
                      refine wpAnyH_take (i := 18) (oi := _) (v := ?_) rfl (by kernel_rfl) (by kernel_rfl) (by kernel_rfl) (fun _ _ _ h => h) (Or.inl ⟨by rfl, ?_⟩) (by assumption) ?_
                      (rotate_left); (focus (intro wv hSw; (obtain ⟨qP, qO, qV, qB⟩ := hSw); obtain ⟨u0_, u1_, _, _, _⟩ := blk2 qP; go_simp; (try with_reducible rfl)))
                      try simp only [Act.put, List.getElem_toArray, List.getElem_cons_succ, List.getElem_cons_zero, List.setIfInBounds_toArray, List.set_cons_zero, List.set_cons_succ]
                      refine wpAnyH_take (i := 19) (oi := _) (v := ?_) rfl (by kernel_rfl) (by kernel_rfl) (by kernel_rfl) (fun _ _ _ h => h) (Or.inl ⟨by rfl, ?_⟩) (by assumption) ?_
                      (rotate_left); (focus (intro wv hSw; (obtain ⟨qP, qO, qV, qB⟩ := hSw); obtain ⟨u0_, u1_, _, _, _⟩ := blk2 qP; go_simp; (try with_reducible rfl)))
                      try simp only [Act.put, List.getElem_toArray, List.getElem_cons_succ, List.getElem_cons_zero, List.setIfInBounds_toArray, List.set_cons_zero, List.set_cons_succ]
                      refine wpAnyH_done (by kernel_rfl) ?_ _
                      have hw1 : IntKind.i64.wrap (t + 1) = t + 1 := IntWalk.i64_in _ (by omega)
                      have hP8 := hP_0
                      have hO8 := hO_0
                      have hB8 := hB_0
                      go_wp2_with fail
                      refine wp_region_held_drew (S := (fun w' => w'.heap[w1.heap.size]? = some (.cells #[.int .i64 d, .slice (some ⟨b1, off1, none⟩) m cp] 25) ∧ SOwn encNum w' w.heap.size 3 (some ⟨b1, off1, none⟩) cp xs ∧ Below w.heap.size w w')) (by kernel_rfl) ⟨hP8, hO8.drew, hB8.drew⟩ (fun hHeld => ?_)
                      obtain ⟨hP_0, hO_0, hB_0⟩ := id hHeld
                      refine wpAnyH_take (i := 0) (oi := _) (v := ?_) rfl (by kernel_rfl) (by kernel_rfl) (by kernel_rfl) (fun _ _ _ h => h) (Or.inl ⟨by rfl, ?_⟩) (by assumption) ?_
                      (rotate_left); (focus (intro wv hSw; (obtain ⟨qP, qO, qB⟩ := hSw); obtain ⟨u0_, u1_, _, _, _⟩ := blk2 qP; go_simp; (try with_reducible rfl)))
                      try simp only [Act.put, List.getElem_toArray, List.getElem_cons_succ, List.getElem_cons_zero, List.setIfInBounds_toArray, List.set_cons_zero, List.set_cons_succ]
                      refine wpAnyH_take (i := 1) (oi := _) (v := ?_) rfl (by kernel_rfl) (by kernel_rfl) (by kernel_rfl) (fun _ _ _ h => h) (Or.inl ⟨by rfl, ?_⟩) (by assumption) ?_
                      (rotate_left); (focus (intro wv hSw; (obtain ⟨qP, qO, qB⟩ := hSw); obtain ⟨u0_, u1_, _, _, _⟩ := blk2 qP; go_simp; (try with_reducible rfl)))
                      try simp only [Act.put, List.getElem_toArray, List.getElem_cons_succ, List.getElem_cons_zero, List.setIfInBounds_toArray, List.set_cons_zero, List.set_cons_succ]
                      refine wpAnyH_take (i := 2) (oi := _) (v := ?_) rfl (by kernel_rfl) (by kernel_rfl) (by kernel_rfl) (fun _ _ _ h => h) (Or.inl ⟨by rfl, ?_⟩) (by assumption) ?_
                      (rotate_left); (focus (intro wv hSw; (obtain ⟨qP, qO, qB⟩ := hSw); obtain ⟨u0_, u1_, _, _, _⟩ := blk2 qP; go_simp; (try with_reducible rfl)))
                      try simp only [Act.put, List.getElem_toArray, List.getElem_cons_succ, List.getElem_cons_zero, List.setIfInBounds_toArray, List.set_cons_zero, List.set_cons_succ]
                      refine wpAnyH_take (i := 3) (oi := _) (v := ?_) rfl (by kernel_rfl) (by kernel_rfl) (by kernel_rfl) (fun _ _ _ h => h) (Or.inl ⟨by rfl, ?_⟩) (by assumption) ?_
                      (rotate_left); (focus (intro wv hSw; (obtain ⟨qP, qO, qB⟩ := hSw); obtain ⟨u0_, u1_, _, _, _⟩ := blk2 qP; go_simp; (try with_reducible rfl)))
                      try simp only [Act.put, List.getElem_toArray, List.getElem_cons_succ, List.getElem_cons_zero, List.setIfInBounds_toArray, List.set_cons_zero, List.set_cons_succ]
                      refine wpAnyH_take (i := 4) (oi := _) (v := ?_) rfl (by kernel_rfl) (by kernel_rfl) (by kernel_rfl) (fun _ _ _ h => h) (Or.inl ⟨by rfl, ?_⟩) (by assumption) ?_
                      (rotate_left); (focus (intro wv hSw; (obtain ⟨qP, qO, qB⟩ := hSw); obtain ⟨u0_, u1_, _, _, _⟩ := blk2 qP; go_simp; (try with_reducible rfl)))
                      try simp only [Act.put, List.getElem_toArray, List.getElem_cons_succ, List.getElem_cons_zero, List.setIfInBounds_toArray, List.set_cons_zero, List.set_cons_succ]
                      refine wpAnyH_take (i := 5) (oi := _) (v := ?_) rfl (by kernel_rfl) (by kernel_rfl) (by kernel_rfl) (fun _ _ _ h => h) (Or.inl ⟨by rfl, ?_⟩) (by assumption) ?_
                      (rotate_left); (focus (intro wv hSw; (obtain ⟨qP, qO, qB⟩ := hSw); obtain ⟨u0_, u1_, _, _, _⟩ := blk2 qP; have cA := rowCel qO.row HKX.out HT.out; go_simp; (try with_reducible rfl)))
                      try simp only [Act.put, List.getElem_toArray, List.getElem_cons_succ, List.getElem_cons_zero, List.setIfInBounds_toArray, List.set_cons_zero, List.set_cons_succ]
                      refine wpAnyH_take (i := 6) (oi := _) (v := ?_) rfl (by kernel_rfl) (by kernel_rfl) (by kernel_rfl) (fun _ _ _ h => h) (Or.inl ⟨by rfl, ?_⟩) (by assumption) ?_
                      (rotate_left); (focus (intro wv hSw; (obtain ⟨qP, qO, qB⟩ := hSw); obtain ⟨u0_, u1_, _, _, _⟩ := blk2 qP; have cA := rowCel qO.row HKX.out HT.out; go_simp; (try with_reducible rfl)))
                      try simp only [Act.put, List.getElem_toArray, List.getElem_cons_succ, List.getElem_cons_zero, List.setIfInBounds_toArray, List.set_cons_zero, List.set_cons_succ]
                      refine wpAnyH_take (i := 7) (oi := _) (v := ?_) rfl (by kernel_rfl) (by kernel_rfl) (by kernel_rfl) (fun _ _ _ h => h) (Or.inl ⟨by rfl, ?_⟩) (by assumption) ?_
                      (rotate_left); (focus (intro wv hSw; (obtain ⟨qP, qO, qB⟩ := hSw); obtain ⟨u0_, u1_, _, _, _⟩ := blk2 qP; go_simp; (try with_reducible rfl)))
                      try simp only [Act.put, List.getElem_toArray, List.getElem_cons_succ, List.getElem_cons_zero, List.setIfInBounds_toArray, List.set_cons_zero, List.set_cons_succ]
                      refine wpAnyH_ready (rs := [8, 12]) (by kernel_rfl) (by simp) ?_
                      refine AllReadyH.cons (o := _) rfl (fun K hK => ?_) (AllReadyH.cons (o := _) rfl (fun K hK => ?_) AllReadyH.nil)
                      · go_simp
                        (go_at_call 23; refine (iCset_len d _ cp xs k (t + 1) _ HM.out hO_0.row (by omega) HSB.out HSD.out HSL.out HSQ.out).mono ?_; rintro e x0c ⟨U9, c9, rfl, hU_0c, hw_0c⟩)
                        refine hK.out _ _ ⟨blk_next hP_0 hw_0c, hO_0.next hw_0c, bel_next hB_0 hw_0c⟩ (fun hHeld => ?_)
                        clear hK K
                        try simp only [Act.put, List.getElem_toArray, List.getElem_cons_succ, List.getElem_cons_zero, List.setIfInBounds_toArray, List.set_cons_zero, List.set_cons_succ]
                        obtain ⟨hP_0c, hO_0c, hB_0c⟩ := id hHeld
                        have hU_0c := hU_0c.mono (base' := w.heap.size) hB_0.size
                        refine wpAnyH_take (i := 9) (oi := _) (v := ?_) rfl (by kernel_rfl) (by kernel_rfl) (by kernel_rfl) (fun _ _ _ h => h) (Or.inl ⟨by rfl, ?_⟩) (by assumption) ?_
                        (rotate_left); (focus (intro wv hSw; (obtain ⟨qP, qO, qB⟩ := hSw); obtain ⟨u0_, u1_, _, _, _⟩ := blk2 qP; go_simp; (try with_reducible rfl)))
                        try simp only [Act.put, List.getElem_toArray, List.getElem_cons_succ, List.getElem_cons_zero, List.setIfInBounds_toArray, List.set_cons_zero, List.set_cons_succ]
                        refine wpAnyH_take (i := 10) (oi := _) (v := ?_) rfl (by kernel_rfl) (by kernel_rfl) (by kernel_rfl) (fun _ _ _ h => h) (Or.inl ⟨by rfl, ?_⟩) (by assumption) ?_
                        (rotate_left); (focus (intro wv hSw; (obtain ⟨qP, qO, qB⟩ := hSw); obtain ⟨u0_, u1_, _, _, _⟩ := blk2 qP; go_simp; (try with_reducible rfl)))
                        try simp only [Act.put, List.getElem_toArray, List.getElem_cons_succ, List.getElem_cons_zero, List.setIfInBounds_toArray, List.set_cons_zero, List.set_cons_succ]
                        refine wpAnyH_take (i := 11) (oi := _) (v := ?_) rfl (by kernel_rfl) (by kernel_rfl) (by kernel_rfl) (fun _ _ _ h => h) (Or.inl ⟨by rfl, ?_⟩) (by assumption) ?_
                        (rotate_left); (focus (intro wv hSw; (obtain ⟨qP, qO, qB⟩ := hSw); obtain ⟨u0_, u1_, _, _, _⟩ := blk2 qP; go_simp; (try with_reducible rfl)))
                        try simp only [Act.put, List.getElem_toArray, List.getElem_cons_succ, List.getElem_cons_zero, List.setIfInBounds_toArray, List.set_cons_zero, List.set_cons_succ]
                        refine wpAnyH_ready (rs := [12]) (by kernel_rfl) (by simp) ?_
                        refine AllReadyH.cons (o := _) rfl (fun K hK => ?_) AllReadyH.nil
                        go_simp
                        refine hK.out _ _ ⟨blk_next hP_0c (bel1 _ _), hO_0c.next (bel1 _ _), bel_next hB_0c (bel1 _ _)⟩ (fun hHeld => ?_)
                        clear hK K
                        try simp only [Act.put, List.getElem_toArray, List.getElem_cons_succ, List.getElem_cons_zero, List.setIfInBounds_toArray, List.set_cons_zero, List.set_cons_succ]
                        obtain ⟨hP_0ca, hO_0ca, hB_0ca⟩ := id hHeld
                        have hN_0ca : (x0c.alloc (.cells #[.int .i64 0, .slice none 0 0] 25)).heap[x0c.heap.size]? = some (.cells #[.int .i64 0, .slice none 0 0] 25) := by have := blk_new (x0c) (.cells #[.int .i64 0, .slice none 0 0] 25); simpa using this
                        have zP_0ca : w1.heap.size < x0c.heap.size := by have := blk_lt hP_0c; simpa using this
                        have zB_0ca : w.heap.size ≤ x0c.heap.size := by have := hB_0c.size; simpa using this
                        have hU_0ca := hU_0c.next (bel1 (x0c) (.cells #[.int .i64 0, .slice none 0 0] 25))
                        refine wpAnyH_ready (rs := [13]) (by kernel_rfl) (by simp) ?_
                        refine AllReadyH.cons (o := _) rfl (fun K hK => ?_) AllReadyH.nil
                        obtain ⟨sc0, sc1, sf0, sf1, sz_⟩ := blk2 hN_0ca
                        go_simp
                        refine hK.out _ _ ⟨blk_next hP_0c (bel1 _ _), hO_0c.next (bel1 _ _), bel_next hB_0c (bel1 _ _)⟩ (fun hHeld => ?_)
                        clear hK K
                        try simp only [Act.put, List.getElem_toArray, List.getElem_cons_succ, List.getElem_cons_zero, List.setIfInBounds_toArray, List.set_cons_zero, List.set_cons_succ]
                        obtain ⟨hP_0cw, hO_0cw, hB_0cw⟩ := id hHeld
                        have hN_0cw : (x0c.alloc (.cells #[.int .i64 g, .slice U9 q c9] 25)).heap[x0c.heap.size]? = some (.cells #[.int .i64 g, .slice U9 q c9] 25) := by have := blk_new (x0c) (.cells #[.int .i64 g, .slice U9 q c9] 25); simpa using this
                        have hU_0cw := hU_0c.next (bel1 (x0c) (.cells #[.int .i64 g, .slice U9 q c9] 25))
                        refine wpAnyH_take (i := 14) (oi := _) (v := ?_) rfl (by kernel_rfl) (by kernel_rfl) (by kernel_rfl) (fun _ _ _ h => h) (Or.inl ⟨by rfl, ?_⟩) (by assumption) ?_
                        (rotate_left); (focus (intro wv hSw; (obtain ⟨qP, qO, qB⟩ := hSw); obtain ⟨u0_, u1_, _, _, _⟩ := blk2 qP; go_simp; (try with_reducible rfl)))
                        try simp only [Act.put, List.getElem_toArray, List.getElem_cons_succ, List.getElem_cons_zero, List.setIfInBounds_toArray, List.set_cons_zero, List.set_cons_succ]
                        refine wpAnyH_done (by kernel_rfl) ?_ _
                        have hP9 := hP_0cw
                        have hN9 := hN_0cw
                        have hO9 := hO_0cw
                        have hU9 := hU_0cw
                        have hB9 := hB_0cw
                        clear hw1
                        obtain ⟨x0_, x1_, _, _, _⟩ := blk2 hP9
                        obtain ⟨y0_, y1_, _, _, _⟩ := blk2 hN9
                        go_wp2_with fail
                        refine (iDk_is d _ cp xs k e (f + 1) _ HM.out hO9.row (by omega) HF.out).mono ?_; rintro e' wz ⟨rfl, hwz⟩
                        go_wp2
                        go_ret
                        exact ⟨rfl, bel_next hB9 hwz⟩
                      · go_simp
                        refine hK.out _ _ ⟨blk_next hP_0 (bel1 _ _), hO_0.next (bel1 _ _), bel_next hB_0 (bel1 _ _)⟩ (fun hHeld => ?_)
                        clear hK K
                        try simp only [Act.put, List.getElem_toArray, List.getElem_cons_succ, List.getElem_cons_zero, List.setIfInBounds_toArray, List.set_cons_zero, List.set_cons_succ]
                        obtain ⟨hP_0a, hO_0a, hB_0a⟩ := id hHeld
                        have hN_0a : (w5.drew.drew.alloc (.cells #[.int .i64 0, .slice none 0 0] 25)).heap[w5.heap.size]? = some (.cells #[.int .i64 0, .slice none 0 0] 25) := by have := blk_new (w5.drew.drew) (.cells #[.int .i64 0, .slice none 0 0] 25); simpa using this
                        have zP_0a : w1.heap.size < w5.heap.size := by have := blk_lt hP_0; simpa using this
                        have zB_0a : w.heap.size ≤ w5.heap.size := by have := hB_0.size; simpa using this
                        refine wpAnyH_ready (rs := [8]) (by kernel_rfl) (by simp) ?_
                        refine AllReadyH.cons (o := _) rfl (fun K hK => ?_) AllReadyH.nil
                        go_simp
                        (go_at_call 23; refine (iCset_len d _ cp xs k (t + 1) _ HM.out hO_0a.row (by omega) HSB.out HSD.out HSL.out HSQ.out).mono ?_; rintro e x0ac ⟨U9, c9, rfl, hU_0ac, hw_0ac⟩)
                        refine hK.out _ _ ⟨blk_next hP_0a hw_0ac, hO_0a.next hw_0ac, bel_next hB_0a hw_0ac⟩ (fun hHeld => ?_)
                        clear hK K
                        try simp only [Act.put, List.getElem_toArray, List.getElem_cons_succ, List.getElem_cons_zero, List.setIfInBounds_toArray, List.set_cons_zero, List.set_cons_succ]
                        obtain ⟨hP_0ac, hO_0ac, hB_0ac⟩ := id hHeld
                        have hU_0ac := hU_0ac.mono (base' := w.heap.size) hB_0a.size
                        have hN_0ac := blk_next hN_0a hw_0ac
                        refine wpAnyH_take (i := 9) (oi := _) (v := ?_) rfl (by kernel_rfl) (by kernel_rfl) (by kernel_rfl) (fun _ _ _ h => h) (Or.inl ⟨by rfl, ?_⟩) (by assumption) ?_
                        (rotate_left); (focus (intro wv hSw; (obtain ⟨qP, qO, qB⟩ := hSw); obtain ⟨u0_, u1_, _, _, _⟩ := blk2 qP; go_simp; (try with_reducible rfl)))
                        try simp only [Act.put, List.getElem_toArray, List.getElem_cons_succ, List.getElem_cons_zero, List.setIfInBounds_toArray, List.set_cons_zero, List.set_cons_succ]
                        refine wpAnyH_take (i := 10) (oi := _) (v := ?_) rfl (by kernel_rfl) (by kernel_rfl) (by kernel_rfl) (fun _ _ _ h => h) (Or.inl ⟨by rfl, ?_⟩) (by assumption) ?_
                        (rotate_left); (focus (intro wv hSw; (obtain ⟨qP, qO, qB⟩ := hSw); obtain ⟨u0_, u1_, _, _, _⟩ := blk2 qP; go_simp; (try with_reducible rfl)))
                        try simp only [Act.put, List.getElem_toArray, List.getElem_cons_succ, List.getElem_cons_zero, List.setIfInBounds_toArray, List.set_cons_zero, List.set_cons_succ]
                        refine wpAnyH_take (i := 11) (oi := _) (v := ?_) rfl (by kernel_rfl) (by kernel_rfl) (by kernel_rfl) (fun _ _ _ h => h) (Or.inl ⟨by rfl, ?_⟩) (by assumption) ?_
                        (rotate_left); (focus (intro wv hSw; (obtain ⟨qP, qO, qB⟩ := hSw); obtain ⟨u0_, u1_, _, _, _⟩ := blk2 qP; go_simp; (try with_reducible rfl)))
                        try simp only [Act.put, List.getElem_toArray, List.getElem_cons_succ, List.getElem_cons_zero, List.setIfInBounds_toArray, List.set_cons_zero, List.set_cons_succ]
                        refine wpAnyH_ready (rs := [13]) (by kernel_rfl) (by simp) ?_
                        refine AllReadyH.cons (o := _) rfl (fun K hK => ?_) AllReadyH.nil
                        obtain ⟨sc0, sc1, sf0, sf1, sz_⟩ := blk2 hN_0ac
                        go_simp
                        refine hK.out _ _ ⟨blk_store2 hP_0ac (Nat.ne_of_lt zP_0a) _ _, SOwn.boxO hO_0ac hN_0ac (by decide) _ _, store2_bel hB_0ac zB_0a _ _⟩ (fun hHeld => ?_)
                        clear hK K
                        try simp only [Act.put, List.getElem_toArray, List.getElem_cons_succ, List.getElem_cons_zero, List.setIfInBounds_toArray, List.set_cons_zero, List.set_cons_succ]
                        obtain ⟨hP_0acw, hO_0acw, hB_0acw⟩ := id hHeld
                        have hN_0acw := blk2_set (a := (.int .i64 g)) (b := (.slice U9 q c9)) hN_0ac
                        have hU_0acw := SOwn.boxO hU_0ac hN_0ac (by decide) ((.int .i64 g)) ((.slice U9 q c9))
                        refine wpAnyH_take (i := 14) (oi := _) (v := ?_) rfl (by kernel_rfl) (by kernel_rfl) (by kernel_rfl) (fun _ _ _ h => h) (Or.inl ⟨by rfl, ?_⟩) (by assumption) ?_
                        (rotate_left); (focus (intro wv hSw; (obtain ⟨qP, qO, qB⟩ := hSw); obtain ⟨u0_, u1_, _, _, _⟩ := blk2 qP; go_simp; (try with_reducible rfl)))
                        try simp only [Act.put, List.getElem_toArray, List.getElem_cons_succ, List.getElem_cons_zero, List.setIfInBounds_toArray, List.set_cons_zero, List.set_cons_succ]
                        refine wpAnyH_done (by kernel_rfl) ?_ _
                        have hP9 := hP_0acw
                        have hN9 := hN_0acw
                        have hO9 := hO_0acw
                        have hU9 := hU_0acw
                        have hB9 := hB_0acw
                        clear hw1
                        obtain ⟨x0_, x1_, _, _, _⟩ := blk2 hP9
                        obtain ⟨y0_, y1_, _, _, _⟩ := blk2 hN9
                        go_wp2_with fail
                        refine (iDk_is d _ cp xs k e (f + 1) _ HM.out hO9.row (by omega) HF.out).mono ?_; rintro e' wz ⟨rfl, hwz⟩
                        go_wp2
                        go_ret
                        exact ⟨rfl, bel_next hB9 hwz⟩
                    · have hgd : d = g := by rw [← hg]; exact (csD_yes hb).symm
                      have hl2 : xs.set k (t + 1) = l := by rw [← hl, csL_yes hb, Int.toNat_natCast]
                      have hqm : m = q := by rw [← hq, ← hl2, List.length_set, HM.out]
                      have HH : Hid (daB d l (k : Int) e f = false) := Lib.hid (by have := da_high hv hce hdf (by rw [tlI_at hkx, htt]; exact hb); rw [tlI_at hkx, htt, Int.toNat_natCast, hl2] at this; exact this)
                      clear hv hce hs hvv htt hsv hdv hb hg hl hq hh hdf hl2
                      subst hgd
                      subst hqm
                      have hP1 : (w1.alloc (.cells #[.int .i64 d, .slice A m cp] 25)).heap[w1.heap.size]? = some (.cells #[.int .i64 d, .slice A m cp] 25) := by have := blk_new (w1) (.cells #[.int .i64 d, .slice A m cp] 25); simpa using this
                      have hB1 := hB0.alloc hB0.size (.cells #[.int .i64 d, .slice A m cp] 25)
                      have hO1 := hO0.next (bel1 _ (.cells #[.int .i64 d, .slice A m cp] 25))
                      have zBP := hB0.size
                      obtain ⟨cP1_0, cP1_1, fP1_0, fP1_1, zP1⟩ := blk2 hP1
                      go_wp2_with fail
                      refine (iDk_is d A cp xs k e f _ HM.out hO1.row (by omega) HDR.out).mono ?_; rintro e' w2 ⟨rfl, hw2⟩
                      have hP2 := blk_next hP1 hw2
                      have hO2 := hO1.next hw2
                      have hB2 := bel_next hB1 hw2
                      obtain ⟨cP2_0, cP2_1, fP2_0, fP2_1, zP2⟩ := blk2 hP2
                      go_wp2_with fail
                      refine (sDk_is d A cp xs k e f _ HM.out hO2.row (by omega) HDR.out).mono ?_; rintro e' w3 ⟨rfl, hw3⟩
                      have hP3 := blk_next hP2 hw3
                      have hO3 := hO2.next hw3
                      have hB3 := bel_next hB2 hw3
                      obtain ⟨cP3_0, cP3_1, fP3_0, fP3_1, zP3⟩ := blk2 hP3
                      go_wp2_with fail
                      refine (sCv_is d A cp xs _ HM.out hO3.row (by omega) HCV.out).mono ?_; rintro e' w4 ⟨rfl, hw4⟩
                      have hP4 := blk_next hP3 hw4
                      have hO4 := hO3.next hw4
                      have hB4 := bel_next hB3 hw4
                      obtain ⟨cP4_0, cP4_1, fP4_0, fP4_1, zP4⟩ := blk2 hP4
                      go_wp2_with fail
                      refine (iSh_len d A cp xs e f _ HM.out hO4.row (by omega) HL.out HQ.out).mono ?_; rintro e' w5 ⟨V, cv, rfl, hV5, hw5⟩
                      have hP5 := blk_next hP4 hw5
                      have hO5 := hO4.next hw5
                      have hB5 := bel_next hB4 hw5
                      have hV5 := hV5.mono (base' := w.heap.size) hB4.size
                      obtain ⟨cP5_0, cP5_1, fP5_0, fP5_1, zP5⟩ := blk2 hP5
                      obtain ⟨b1, off1, rfl, _, cA⟩ := rowNum hO5.row HKX.out
                      obtain ⟨b2, off2, rfl, _, cV⟩ := rowNum hV5.row HKQ.out
                      clear cA cV
                      go_wp2_with fail
                      refine wp_region_held_drew (S := (fun w' => w'.heap[w1.heap.size]? = some (.cells #[.int .i64 d, .slice (some ⟨b1, off1, none⟩) m cp] 25) ∧ SOwn encNum w' w.heap.size 3 (some ⟨b1, off1, none⟩) cp xs ∧ SOwn encNum w' w.heap.size 3 (some ⟨b2, off2, none⟩) cv s ∧ Below w.heap.size w w')) (by kernel_rfl) ⟨hP5, hO5.drew, hV5.drew, hB5.drew⟩ (fun hHeld => ?_)
                      obtain ⟨hP_0, hO_0, hV_0, hB_0⟩ := id hHeld
                      refine wpAnyH_take (i := 0) (oi := _) (v := ?_) rfl (by kernel_rfl) (by kernel_rfl) (by kernel_rfl) (fun _ _ _ h => h) (Or.inl ⟨by rfl, ?_⟩) (by assumption) ?_
                      (rotate_left); (focus (intro wv hSw; (obtain ⟨qP, qO, qV, qB⟩ := hSw); obtain ⟨u0_, u1_, _, _, _⟩ := blk2 qP; go_simp; (try with_reducible rfl)))
                      try simp only [Act.put, List.getElem_toArray, List.getElem_cons_succ, List.getElem_cons_zero, List.setIfInBounds_toArray, List.set_cons_zero, List.set_cons_succ]
                      refine wpAnyH_take (i := 1) (oi := _) (v := ?_) rfl (by kernel_rfl) (by kernel_rfl) (by kernel_rfl) (fun _ _ _ h => h) (Or.inl ⟨by rfl, ?_⟩) (by assumption) ?_
                      (rotate_left); (focus (intro wv hSw; (obtain ⟨qP, qO, qV, qB⟩ := hSw); obtain ⟨u0_, u1_, _, _, _⟩ := blk2 qP; go_simp; (try with_reducible rfl)))
                      try simp only [Act.put, List.getElem_toArray, List.getElem_cons_succ, List.getElem_cons_zero, List.setIfInBounds_toArray, List.set_cons_zero, List.set_cons_succ]
                      refine wpAnyH_take (i := 2) (oi := _) (v := ?_) rfl (by kernel_rfl) (by kernel_rfl) (by kernel_rfl) (fun _ _ _ h => h) (Or.inl ⟨by rfl, ?_⟩) (by assumption) ?_
                      (rotate_left); (focus (intro wv hSw; (obtain ⟨qP, qO, qV, qB⟩ := hSw); obtain ⟨u0_, u1_, _, _, _⟩ := blk2 qP; go_simp; (try with_reducible rfl)))
                      try simp only [Act.put, List.getElem_toArray, List.getElem_cons_succ, List.getElem_cons_zero, List.setIfInBounds_toArray, List.set_cons_zero, List.set_cons_succ]
                      refine wpAnyH_take (i := 3) (oi := _) (v := ?_) rfl (by kernel_rfl) (by kernel_rfl) (by kernel_rfl) (fun _ _ _ h => h) (Or.inl ⟨by rfl, ?_⟩) (by assumption) ?_
                      (rotate_left); (focus (intro wv hSw; (obtain ⟨qP, qO, qV, qB⟩ := hSw); obtain ⟨u0_, u1_, _, _, _⟩ := blk2 qP; go_simp; (try with_reducible rfl)))
                      try simp only [Act.put, List.getElem_toArray, List.getElem_cons_succ, List.getElem_cons_zero, List.setIfInBounds_toArray, List.set_cons_zero, List.set_cons_succ]
                      refine wpAnyH_take (i := 4) (oi := _) (v := ?_) rfl (by kernel_rfl) (by kernel_rfl) (by kernel_rfl) (fun _ _ _ h => h) (Or.inl ⟨by rfl, ?_⟩) (by assumption) ?_
                      (rotate_left); (focus (intro wv hSw; (obtain ⟨qP, qO, qV, qB⟩ := hSw); obtain ⟨u0_, u1_, _, _, _⟩ := blk2 qP; go_simp; (try with_reducible rfl)))
                      try simp only [Act.put, List.getElem_toArray, List.getElem_cons_succ, List.getElem_cons_zero, List.setIfInBounds_toArray, List.set_cons_zero, List.set_cons_succ]
                      refine wpAnyH_take (i := 5) (oi := _) (v := ?_) rfl (by kernel_rfl) (by kernel_rfl) (by kernel_rfl) (fun _ _ _ h => h) (Or.inl ⟨by rfl, ?_⟩) (by assumption) ?_
                      (rotate_left); (focus (intro wv hSw; (obtain ⟨qP, qO, qV, qB⟩ := hSw); obtain ⟨u0_, u1_, _, _, _⟩ := blk2 qP; go_simp; (try with_reducible rfl)))
                      try simp only [Act.put, List.getElem_toArray, List.getElem_cons_succ, List.getElem_cons_zero, List.setIfInBounds_toArray, List.set_cons_zero, List.set_cons_succ]
                      refine wpAnyH_take (i := 6) (oi := _) (v := ?_) rfl (by kernel_rfl) (by kernel_rfl) (by kernel_rfl) (fun _ _ _ h => h) (Or.inl ⟨by rfl, ?_⟩) (by assumption) ?_
                      (rotate_left); (focus (intro wv hSw; (obtain ⟨qP, qO, qV, qB⟩ := hSw); obtain ⟨u0_, u1_, _, _, _⟩ := blk2 qP; go_simp; (try with_reducible rfl)))
                      try simp only [Act.put, List.getElem_toArray, List.getElem_cons_succ, List.getElem_cons_zero, List.setIfInBounds_toArray, List.set_cons_zero, List.set_cons_succ]
                      refine wpAnyH_take (i := 7) (oi := _) (v := ?_) rfl (by kernel_rfl) (by kernel_rfl) (by kernel_rfl) (fun _ _ _ h => h) (Or.inl ⟨by rfl, ?_⟩) (by assumption) ?_
                      (rotate_left); (focus (intro wv hSw; (obtain ⟨qP, qO, qV, qB⟩ := hSw); obtain ⟨u0_, u1_, _, _, _⟩ := blk2 qP; go_simp; (try with_reducible rfl)))
                      try simp only [Act.put, List.getElem_toArray, List.getElem_cons_succ, List.getElem_cons_zero, List.setIfInBounds_toArray, List.set_cons_zero, List.set_cons_succ]
                      refine wpAnyH_take (i := 8) (oi := _) (v := ?_) rfl (by kernel_rfl) (by kernel_rfl) (by kernel_rfl) (fun _ _ _ h => h) (Or.inl ⟨by rfl, ?_⟩) (by assumption) ?_
                      (rotate_left); (focus (intro wv hSw; (obtain ⟨qP, qO, qV, qB⟩ := hSw); obtain ⟨u0_, u1_, _, _, _⟩ := blk2 qP; go_simp; (try with_reducible rfl)))
                      try simp only [Act.put, List.getElem_toArray, List.getElem_cons_succ, List.getElem_cons_zero, List.setIfInBounds_toArray, List.set_cons_zero, List.set_cons_succ]
                      refine wpAnyH_take (i := 9) (oi := _) (v := ?_) rfl (by kernel_rfl) (by kernel_rfl) (by kernel_rfl) (fun _ _ _ h => h) (Or.inl ⟨by rfl, ?_⟩) (by assumption) ?_
                      (rotate_left); (focus (intro wv hSw; (obtain ⟨qP, qO, qV, qB⟩ := hSw); obtain ⟨u0_, u1_, _, _, _⟩ := blk2 qP; go_simp; (try with_reducible rfl)))
                      try simp only [Act.put, List.getElem_toArray, List.getElem_cons_succ, List.getElem_cons_zero, List.setIfInBounds_toArray, List.set_cons_zero, List.set_cons_succ]
                      refine wpAnyH_take (i := 10) (oi := _) (v := ?_) rfl (by kernel_rfl) (by kernel_rfl) (by kernel_rfl) (fun _ _ _ h => h) (Or.inl ⟨by rfl, ?_⟩) (by assumption) ?_
                      (rotate_left); (focus (intro wv hSw; (obtain ⟨qP, qO, qV, qB⟩ := hSw); obtain ⟨u0_, u1_, _, _, _⟩ := blk2 qP; go_simp; (try with_reducible rfl)))
                      try simp only [Act.put, List.getElem_toArray, List.getElem_cons_succ, List.getElem_cons_zero, List.setIfInBounds_toArray, List.set_cons_zero, List.set_cons_succ]
                      refine wpAnyH_take (i := 11) (oi := _) (v := ?_) rfl (by kernel_rfl) (by kernel_rfl) (by kernel_rfl) (fun _ _ _ h => h) (Or.inl ⟨by rfl, ?_⟩) (by assumption) ?_
                      (rotate_left); (focus (intro wv hSw; (obtain ⟨qP, qO, qV, qB⟩ := hSw); obtain ⟨u0_, u1_, _, _, _⟩ := blk2 qP; have cA := rowCel qO.row HKX.out HT.out; go_simp; (try with_reducible rfl)))
                      try simp only [Act.put, List.getElem_toArray, List.getElem_cons_succ, List.getElem_cons_zero, List.setIfInBounds_toArray, List.set_cons_zero, List.set_cons_succ]
                      refine wpAnyH_take (i := 12) (oi := _) (v := ?_) rfl (by kernel_rfl) (by kernel_rfl) (by kernel_rfl) (fun _ _ _ h => h) (Or.inl ⟨by rfl, ?_⟩) (by assumption) ?_
                      (rotate_left); (focus (intro wv hSw; (obtain ⟨qP, qO, qV, qB⟩ := hSw); obtain ⟨u0_, u1_, _, _, _⟩ := blk2 qP; have cA := rowCel qO.row HKX.out HT.out; go_simp; (try with_reducible rfl)))
                      try simp only [Act.put, List.getElem_toArray, List.getElem_cons_succ, List.getElem_cons_zero, List.setIfInBounds_toArray, List.set_cons_zero, List.set_cons_succ]
                      refine wpAnyH_take (i := 13) (oi := _) (v := ?_) rfl (by kernel_rfl) (by kernel_rfl) (by kernel_rfl) (fun _ _ _ h => h) (Or.inl ⟨by rfl, ?_⟩) (by assumption) ?_
                      (rotate_left); (focus (intro wv hSw; (obtain ⟨qP, qO, qV, qB⟩ := hSw); obtain ⟨u0_, u1_, _, _, _⟩ := blk2 qP; go_simp; (try with_reducible rfl)))
                      try simp only [Act.put, List.getElem_toArray, List.getElem_cons_succ, List.getElem_cons_zero, List.setIfInBounds_toArray, List.set_cons_zero, List.set_cons_succ]
                      refine wpAnyH_take (i := 14) (oi := _) (v := ?_) rfl (by kernel_rfl) (by kernel_rfl) (by kernel_rfl) (fun _ _ _ h => h) (Or.inl ⟨by rfl, ?_⟩) (by assumption) ?_
                      (rotate_left); (focus (intro wv hSw; (obtain ⟨qP, qO, qV, qB⟩ := hSw); obtain ⟨u0_, u1_, _, _, _⟩ := blk2 qP; go_simp; (try with_reducible rfl)))
                      try simp only [Act.put, List.getElem_toArray, List.getElem_cons_succ, List.getElem_cons_zero, List.setIfInBounds_toArray, List.set_cons_zero, List.set_cons_succ]
                      refine wpAnyH_take (i := 15) (oi := _) (v := ?_) rfl (by kernel_rfl) (by kernel_rfl) (by kernel_rfl) (fun _ _ _ h => h) (Or.inl ⟨by rfl, ?_⟩) (by assumption) ?_
                      (rotate_left); (focus (intro wv hSw; (obtain ⟨qP, qO, qV, qB⟩ := hSw); obtain ⟨u0_, u1_, _, _, _⟩ := blk2 qP; have cV := rowCel qV.row HKQ.out HVV.out; go_simp; (try with_reducible rfl)))
                      try simp only [Act.put, List.getElem_toArray, List.getElem_cons_succ, List.getElem_cons_zero, List.setIfInBounds_toArray, List.set_cons_zero, List.set_cons_succ]
                      refine wpAnyH_take (i := 16) (oi := _) (v := ?_) rfl (by kernel_rfl) (by kernel_rfl) (by kernel_rfl) (fun _ _ _ h => h) (Or.inl ⟨by rfl, ?_⟩) (by assumption) ?_
                      (rotate_left); (focus (intro wv hSw; (obtain ⟨qP, qO, qV, qB⟩ := hSw); obtain ⟨u0_, u1_, _, _, _⟩ := blk2 qP; have cV := rowCel qV.row HKQ.out HVV.out; go_simp; (try with_reducible rfl)))
                      try simp only [Act.put, List.getElem_toArray, List.getElem_cons_succ, List.getElem_cons_zero, List.setIfInBounds_toArray, List.set_cons_zero, List.set_cons_succ]
                      refine wpAnyH_take (i := 17) (oi := _) (v := ?_) rfl (by kernel_rfl) (by kernel_rfl) (by kernel_rfl) (fun _ _ _ h => h) (Or.inl ⟨by rfl, ?_⟩) (by assumption) ?_
                      (rotate_left); (focus (intro wv hSw; (obtain ⟨qP, qO, qV, qB⟩ := hSw); obtain ⟨u0_, u1_, _, _, _⟩ := blk2 qP; go_simp; (try with_reducible rfl)))
                      try simp only [Act.put, List.getElem_toArray, List.getElem_cons_succ, List.getElem_cons_zero, List.setIfInBounds_toArray, List.set_cons_zero, List.set_cons_succ]
                      refine wpAnyH_take (i := 18) (oi := _) (v := ?_) rfl (by kernel_rfl) (by kernel_rfl) (by kernel_rfl) (fun _ _ _ h => h) (Or.inl ⟨by rfl, ?_⟩) (by assumption) ?_
                      (rotate_left); (focus (intro wv hSw; (obtain ⟨qP, qO, qV, qB⟩ := hSw); obtain ⟨u0_, u1_, _, _, _⟩ := blk2 qP; go_simp; (try with_reducible rfl)))
                      try simp only [Act.put, List.getElem_toArray, List.getElem_cons_succ, List.getElem_cons_zero, List.setIfInBounds_toArray, List.set_cons_zero, List.set_cons_succ]
                      refine wpAnyH_take (i := 19) (oi := _) (v := ?_) rfl (by kernel_rfl) (by kernel_rfl) (by kernel_rfl) (fun _ _ _ h => h) (Or.inl ⟨by rfl, ?_⟩) (by assumption) ?_
                      (rotate_left); (focus (intro wv hSw; (obtain ⟨qP, qO, qV, qB⟩ := hSw); obtain ⟨u0_, u1_, _, _, _⟩ := blk2 qP; go_simp; (try with_reducible rfl)))
                      try simp only [Act.put, List.getElem_toArray, List.getElem_cons_succ, List.getElem_cons_zero, List.setIfInBounds_toArray, List.set_cons_zero, List.set_cons_succ]
                      refine wpAnyH_done (by kernel_rfl) ?_ _
                      have hw1 : IntKind.i64.wrap (t + 1) = t + 1 := IntWalk.i64_in _ (by omega)
                      have hP8 := hP_0
                      have hO8 := hO_0
                      have hB8 := hB_0
                      go_wp2_with fail
                      refine wp_region_held_drew (S := (fun w' => w'.heap[w1.heap.size]? = some (.cells #[.int .i64 d, .slice (some ⟨b1, off1, none⟩) m cp] 25) ∧ SOwn encNum w' w.heap.size 3 (some ⟨b1, off1, none⟩) cp xs ∧ Below w.heap.size w w')) (by kernel_rfl) ⟨hP8, hO8.drew, hB8.drew⟩ (fun hHeld => ?_)
                      obtain ⟨hP_0, hO_0, hB_0⟩ := id hHeld
                      refine wpAnyH_take (i := 0) (oi := _) (v := ?_) rfl (by kernel_rfl) (by kernel_rfl) (by kernel_rfl) (fun _ _ _ h => h) (Or.inl ⟨by rfl, ?_⟩) (by assumption) ?_
                      (rotate_left); (focus (intro wv hSw; (obtain ⟨qP, qO, qB⟩ := hSw); obtain ⟨u0_, u1_, _, _, _⟩ := blk2 qP; go_simp; (try with_reducible rfl)))
                      try simp only [Act.put, List.getElem_toArray, List.getElem_cons_succ, List.getElem_cons_zero, List.setIfInBounds_toArray, List.set_cons_zero, List.set_cons_succ]
                      refine wpAnyH_take (i := 1) (oi := _) (v := ?_) rfl (by kernel_rfl) (by kernel_rfl) (by kernel_rfl) (fun _ _ _ h => h) (Or.inl ⟨by rfl, ?_⟩) (by assumption) ?_
                      (rotate_left); (focus (intro wv hSw; (obtain ⟨qP, qO, qB⟩ := hSw); obtain ⟨u0_, u1_, _, _, _⟩ := blk2 qP; go_simp; (try with_reducible rfl)))
                      try simp only [Act.put, List.getElem_toArray, List.getElem_cons_succ, List.getElem_cons_zero, List.setIfInBounds_toArray, List.set_cons_zero, List.set_cons_succ]
                      refine wpAnyH_take (i := 2) (oi := _) (v := ?_) rfl (by kernel_rfl) (by kernel_rfl) (by kernel_rfl) (fun _ _ _ h => h) (Or.inl ⟨by rfl, ?_⟩) (by assumption) ?_
                      (rotate_left); (focus (intro wv hSw; (obtain ⟨qP, qO, qB⟩ := hSw); obtain ⟨u0_, u1_, _, _, _⟩ := blk2 qP; go_simp; (try with_reducible rfl)))
                      try simp only [Act.put, List.getElem_toArray, List.getElem_cons_succ, List.getElem_cons_zero, List.setIfInBounds_toArray, List.set_cons_zero, List.set_cons_succ]
                      refine wpAnyH_take (i := 3) (oi := _) (v := ?_) rfl (by kernel_rfl) (by kernel_rfl) (by kernel_rfl) (fun _ _ _ h => h) (Or.inl ⟨by rfl, ?_⟩) (by assumption) ?_
                      (rotate_left); (focus (intro wv hSw; (obtain ⟨qP, qO, qB⟩ := hSw); obtain ⟨u0_, u1_, _, _, _⟩ := blk2 qP; go_simp; (try with_reducible rfl)))
                      try simp only [Act.put, List.getElem_toArray, List.getElem_cons_succ, List.getElem_cons_zero, List.setIfInBounds_toArray, List.set_cons_zero, List.set_cons_succ]
                      refine wpAnyH_take (i := 4) (oi := _) (v := ?_) rfl (by kernel_rfl) (by kernel_rfl) (by kernel_rfl) (fun _ _ _ h => h) (Or.inl ⟨by rfl, ?_⟩) (by assumption) ?_
                      (rotate_left); (focus (intro wv hSw; (obtain ⟨qP, qO, qB⟩ := hSw); obtain ⟨u0_, u1_, _, _, _⟩ := blk2 qP; go_simp; (try with_reducible rfl)))
                      try simp only [Act.put, List.getElem_toArray, List.getElem_cons_succ, List.getElem_cons_zero, List.setIfInBounds_toArray, List.set_cons_zero, List.set_cons_succ]
                      refine wpAnyH_take (i := 5) (oi := _) (v := ?_) rfl (by kernel_rfl) (by kernel_rfl) (by kernel_rfl) (fun _ _ _ h => h) (Or.inl ⟨by rfl, ?_⟩) (by assumption) ?_
                      (rotate_left); (focus (intro wv hSw; (obtain ⟨qP, qO, qB⟩ := hSw); obtain ⟨u0_, u1_, _, _, _⟩ := blk2 qP; have cA := rowCel qO.row HKX.out HT.out; go_simp; (try with_reducible rfl)))
                      try simp only [Act.put, List.getElem_toArray, List.getElem_cons_succ, List.getElem_cons_zero, List.setIfInBounds_toArray, List.set_cons_zero, List.set_cons_succ]
                      refine wpAnyH_take (i := 6) (oi := _) (v := ?_) rfl (by kernel_rfl) (by kernel_rfl) (by kernel_rfl) (fun _ _ _ h => h) (Or.inl ⟨by rfl, ?_⟩) (by assumption) ?_
                      (rotate_left); (focus (intro wv hSw; (obtain ⟨qP, qO, qB⟩ := hSw); obtain ⟨u0_, u1_, _, _, _⟩ := blk2 qP; have cA := rowCel qO.row HKX.out HT.out; go_simp; (try with_reducible rfl)))
                      try simp only [Act.put, List.getElem_toArray, List.getElem_cons_succ, List.getElem_cons_zero, List.setIfInBounds_toArray, List.set_cons_zero, List.set_cons_succ]
                      refine wpAnyH_take (i := 7) (oi := _) (v := ?_) rfl (by kernel_rfl) (by kernel_rfl) (by kernel_rfl) (fun _ _ _ h => h) (Or.inl ⟨by rfl, ?_⟩) (by assumption) ?_
                      (rotate_left); (focus (intro wv hSw; (obtain ⟨qP, qO, qB⟩ := hSw); obtain ⟨u0_, u1_, _, _, _⟩ := blk2 qP; go_simp; (try with_reducible rfl)))
                      try simp only [Act.put, List.getElem_toArray, List.getElem_cons_succ, List.getElem_cons_zero, List.setIfInBounds_toArray, List.set_cons_zero, List.set_cons_succ]
                      refine wpAnyH_ready (rs := [8, 12]) (by kernel_rfl) (by simp) ?_
                      refine AllReadyH.cons (o := _) rfl (fun K hK => ?_) (AllReadyH.cons (o := _) rfl (fun K hK => ?_) AllReadyH.nil)
                      · go_simp
                        (go_at_call 23; refine (iCset_len d _ cp xs k (t + 1) _ HM.out hO_0.row (by omega) HSB.out HSD.out HSL.out HSQ.out).mono ?_; rintro e x0c ⟨U9, c9, rfl, hU_0c, hw_0c⟩)
                        refine hK.out _ _ ⟨blk_next hP_0 hw_0c, hO_0.next hw_0c, bel_next hB_0 hw_0c⟩ (fun hHeld => ?_)
                        clear hK K
                        try simp only [Act.put, List.getElem_toArray, List.getElem_cons_succ, List.getElem_cons_zero, List.setIfInBounds_toArray, List.set_cons_zero, List.set_cons_succ]
                        obtain ⟨hP_0c, hO_0c, hB_0c⟩ := id hHeld
                        have hU_0c := hU_0c.mono (base' := w.heap.size) hB_0.size
                        refine wpAnyH_take (i := 9) (oi := _) (v := ?_) rfl (by kernel_rfl) (by kernel_rfl) (by kernel_rfl) (fun _ _ _ h => h) (Or.inl ⟨by rfl, ?_⟩) (by assumption) ?_
                        (rotate_left); (focus (intro wv hSw; (obtain ⟨qP, qO, qB⟩ := hSw); obtain ⟨u0_, u1_, _, _, _⟩ := blk2 qP; go_simp; (try with_reducible rfl)))
                        try simp only [Act.put, List.getElem_toArray, List.getElem_cons_succ, List.getElem_cons_zero, List.setIfInBounds_toArray, List.set_cons_zero, List.set_cons_succ]
                        refine wpAnyH_take (i := 10) (oi := _) (v := ?_) rfl (by kernel_rfl) (by kernel_rfl) (by kernel_rfl) (fun _ _ _ h => h) (Or.inl ⟨by rfl, ?_⟩) (by assumption) ?_
                        (rotate_left); (focus (intro wv hSw; (obtain ⟨qP, qO, qB⟩ := hSw); obtain ⟨u0_, u1_, _, _, _⟩ := blk2 qP; go_simp; (try with_reducible rfl)))
                        try simp only [Act.put, List.getElem_toArray, List.getElem_cons_succ, List.getElem_cons_zero, List.setIfInBounds_toArray, List.set_cons_zero, List.set_cons_succ]
                        refine wpAnyH_take (i := 11) (oi := _) (v := ?_) rfl (by kernel_rfl) (by kernel_rfl) (by kernel_rfl) (fun _ _ _ h => h) (Or.inl ⟨by rfl, ?_⟩) (by assumption) ?_
                        (rotate_left); (focus (intro wv hSw; (obtain ⟨qP, qO, qB⟩ := hSw); obtain ⟨u0_, u1_, _, _, _⟩ := blk2 qP; go_simp; (try with_reducible rfl)))
                        try simp only [Act.put, List.getElem_toArray, List.getElem_cons_succ, List.getElem_cons_zero, List.setIfInBounds_toArray, List.set_cons_zero, List.set_cons_succ]
                        refine wpAnyH_ready (rs := [12]) (by kernel_rfl) (by simp) ?_
                        refine AllReadyH.cons (o := _) rfl (fun K hK => ?_) AllReadyH.nil
                        go_simp
                        refine hK.out _ _ ⟨blk_next hP_0c (bel1 _ _), hO_0c.next (bel1 _ _), bel_next hB_0c (bel1 _ _)⟩ (fun hHeld => ?_)
                        clear hK K
                        try simp only [Act.put, List.getElem_toArray, List.getElem_cons_succ, List.getElem_cons_zero, List.setIfInBounds_toArray, List.set_cons_zero, List.set_cons_succ]
                        obtain ⟨hP_0ca, hO_0ca, hB_0ca⟩ := id hHeld
                        have hN_0ca : (x0c.alloc (.cells #[.int .i64 0, .slice none 0 0] 25)).heap[x0c.heap.size]? = some (.cells #[.int .i64 0, .slice none 0 0] 25) := by have := blk_new (x0c) (.cells #[.int .i64 0, .slice none 0 0] 25); simpa using this
                        have zP_0ca : w1.heap.size < x0c.heap.size := by have := blk_lt hP_0c; simpa using this
                        have zB_0ca : w.heap.size ≤ x0c.heap.size := by have := hB_0c.size; simpa using this
                        have hU_0ca := hU_0c.next (bel1 (x0c) (.cells #[.int .i64 0, .slice none 0 0] 25))
                        refine wpAnyH_ready (rs := [13]) (by kernel_rfl) (by simp) ?_
                        refine AllReadyH.cons (o := _) rfl (fun K hK => ?_) AllReadyH.nil
                        obtain ⟨sc0, sc1, sf0, sf1, sz_⟩ := blk2 hN_0ca
                        go_simp
                        refine hK.out _ _ ⟨blk_next hP_0c (bel1 _ _), hO_0c.next (bel1 _ _), bel_next hB_0c (bel1 _ _)⟩ (fun hHeld => ?_)
                        clear hK K
                        try simp only [Act.put, List.getElem_toArray, List.getElem_cons_succ, List.getElem_cons_zero, List.setIfInBounds_toArray, List.set_cons_zero, List.set_cons_succ]
                        obtain ⟨hP_0cw, hO_0cw, hB_0cw⟩ := id hHeld
                        have hN_0cw : (x0c.alloc (.cells #[.int .i64 d, .slice U9 m c9] 25)).heap[x0c.heap.size]? = some (.cells #[.int .i64 d, .slice U9 m c9] 25) := by have := blk_new (x0c) (.cells #[.int .i64 d, .slice U9 m c9] 25); simpa using this
                        have hU_0cw := hU_0c.next (bel1 (x0c) (.cells #[.int .i64 d, .slice U9 m c9] 25))
                        refine wpAnyH_take (i := 14) (oi := _) (v := ?_) rfl (by kernel_rfl) (by kernel_rfl) (by kernel_rfl) (fun _ _ _ h => h) (Or.inl ⟨by rfl, ?_⟩) (by assumption) ?_
                        (rotate_left); (focus (intro wv hSw; (obtain ⟨qP, qO, qB⟩ := hSw); obtain ⟨u0_, u1_, _, _, _⟩ := blk2 qP; go_simp; (try with_reducible rfl)))
                        try simp only [Act.put, List.getElem_toArray, List.getElem_cons_succ, List.getElem_cons_zero, List.setIfInBounds_toArray, List.set_cons_zero, List.set_cons_succ]
                        refine wpAnyH_done (by kernel_rfl) ?_ _
                        have hP9 := hP_0cw
                        have hN9 := hN_0cw
                        have hO9 := hO_0cw
                        have hU9 := hU_0cw
                        have hB9 := hB_0cw
                        clear hw1
                        obtain ⟨x0_, x1_, _, _, _⟩ := blk2 hP9
                        obtain ⟨y0_, y1_, _, _, _⟩ := blk2 hN9
                        go_wp2_with fail
                        refine (iDk_is d U9 c9 l k e f _ HSQ.out hU9.row (by omega) HH.out).mono ?_; rintro e' wy ⟨rfl, hwy⟩
                        have hPy := blk_next hP9 hwy
                        have hOy := hO9.next hwy
                        have hBy := bel_next hB9 hwy
                        obtain ⟨x2_, x3_, _, _, _⟩ := blk2 hPy
                        go_wp2_with fail
                        refine (iDk_is d _ cp xs k e (f + 1) _ HM.out hOy.row (by omega) HF.out).mono ?_; rintro e' wz ⟨rfl, hwz⟩
                        go_wp2
                        go_ret
                        exact ⟨rfl, bel_next hBy hwz⟩
                      · go_simp
                        refine hK.out _ _ ⟨blk_next hP_0 (bel1 _ _), hO_0.next (bel1 _ _), bel_next hB_0 (bel1 _ _)⟩ (fun hHeld => ?_)
                        clear hK K
                        try simp only [Act.put, List.getElem_toArray, List.getElem_cons_succ, List.getElem_cons_zero, List.setIfInBounds_toArray, List.set_cons_zero, List.set_cons_succ]
                        obtain ⟨hP_0a, hO_0a, hB_0a⟩ := id hHeld
                        have hN_0a : (w5.drew.drew.alloc (.cells #[.int .i64 0, .slice none 0 0] 25)).heap[w5.heap.size]? = some (.cells #[.int .i64 0, .slice none 0 0] 25) := by have := blk_new (w5.drew.drew) (.cells #[.int .i64 0, .slice none 0 0] 25); simpa using this
                        have zP_0a : w1.heap.size < w5.heap.size := by have := blk_lt hP_0; simpa using this
                        have zB_0a : w.heap.size ≤ w5.heap.size := by have := hB_0.size; simpa using this
                        refine wpAnyH_ready (rs := [8]) (by kernel_rfl) (by simp) ?_
                        refine AllReadyH.cons (o := _) rfl (fun K hK => ?_) AllReadyH.nil
                        go_simp
                        (go_at_call 23; refine (iCset_len d _ cp xs k (t + 1) _ HM.out hO_0a.row (by omega) HSB.out HSD.out HSL.out HSQ.out).mono ?_; rintro e x0ac ⟨U9, c9, rfl, hU_0ac, hw_0ac⟩)
                        refine hK.out _ _ ⟨blk_next hP_0a hw_0ac, hO_0a.next hw_0ac, bel_next hB_0a hw_0ac⟩ (fun hHeld => ?_)
                        clear hK K
                        try simp only [Act.put, List.getElem_toArray, List.getElem_cons_succ, List.getElem_cons_zero, List.setIfInBounds_toArray, List.set_cons_zero, List.set_cons_succ]
                        obtain ⟨hP_0ac, hO_0ac, hB_0ac⟩ := id hHeld
                        have hU_0ac := hU_0ac.mono (base' := w.heap.size) hB_0a.size
                        have hN_0ac := blk_next hN_0a hw_0ac
                        refine wpAnyH_take (i := 9) (oi := _) (v := ?_) rfl (by kernel_rfl) (by kernel_rfl) (by kernel_rfl) (fun _ _ _ h => h) (Or.inl ⟨by rfl, ?_⟩) (by assumption) ?_
                        (rotate_left); (focus (intro wv hSw; (obtain ⟨qP, qO, qB⟩ := hSw); obtain ⟨u0_, u1_, _, _, _⟩ := blk2 qP; go_simp; (try with_reducible rfl)))
                        try simp only [Act.put, List.getElem_toArray, List.getElem_cons_succ, List.getElem_cons_zero, List.setIfInBounds_toArray, List.set_cons_zero, List.set_cons_succ]
                        refine wpAnyH_take (i := 10) (oi := _) (v := ?_) rfl (by kernel_rfl) (by kernel_rfl) (by kernel_rfl) (fun _ _ _ h => h) (Or.inl ⟨by rfl, ?_⟩) (by assumption) ?_
                        (rotate_left); (focus (intro wv hSw; (obtain ⟨qP, qO, qB⟩ := hSw); obtain ⟨u0_, u1_, _, _, _⟩ := blk2 qP; go_simp; (try with_reducible rfl)))
                        try simp only [Act.put, List.getElem_toArray, List.getElem_cons_succ, List.getElem_cons_zero, List.setIfInBounds_toArray, List.set_cons_zero, List.set_cons_succ]
                        refine wpAnyH_take (i := 11) (oi := _) (v := ?_) rfl (by kernel_rfl) (by kernel_rfl) (by kernel_rfl) (fun _ _ _ h => h) (Or.inl ⟨by rfl, ?_⟩) (by assumption) ?_
                        (rotate_left); (focus (intro wv hSw; (obtain ⟨qP, qO, qB⟩ := hSw); obtain ⟨u0_, u1_, _, _, _⟩ := blk2 qP; go_simp; (try with_reducible rfl)))
                        try simp only [Act.put, List.getElem_toArray, List.getElem_cons_succ, List.getElem_cons_zero, List.setIfInBounds_toArray, List.set_cons_zero, List.set_cons_succ]
                        refine wpAnyH_ready (rs := [13]) (by kernel_rfl) (by simp) ?_
                        refine AllReadyH.cons (o := _) rfl (fun K hK => ?_) AllReadyH.nil
                        obtain ⟨sc0, sc1, sf0, sf1, sz_⟩ := blk2 hN_0ac
                        go_simp
                        refine hK.out _ _ ⟨blk_store2 hP_0ac (Nat.ne_of_lt zP_0a) _ _, SOwn.boxO hO_0ac hN_0ac (by decide) _ _, store2_bel hB_0ac zB_0a _ _⟩ (fun hHeld => ?_)
                        clear hK K
                        try simp only [Act.put, List.getElem_toArray, List.getElem_cons_succ, List.getElem_cons_zero, List.setIfInBounds_toArray, List.set_cons_zero, List.set_cons_succ]
                        obtain ⟨hP_0acw, hO_0acw, hB_0acw⟩ := id hHeld
                        have hN_0acw := blk2_set (a := (.int .i64 d)) (b := (.slice U9 m c9)) hN_0ac
                        have hU_0acw := SOwn.boxO hU_0ac hN_0ac (by decide) ((.int .i64 d)) ((.slice U9 m c9))
                        refine wpAnyH_take (i := 14) (oi := _) (v := ?_) rfl (by kernel_rfl) (by kernel_rfl) (by kernel_rfl) (fun _ _ _ h => h) (Or.inl ⟨by rfl, ?_⟩) (by assumption) ?_
                        (rotate_left); (focus (intro wv hSw; (obtain ⟨qP, qO, qB⟩ := hSw); obtain ⟨u0_, u1_, _, _, _⟩ := blk2 qP; go_simp; (try with_reducible rfl)))
                        try simp only [Act.put, List.getElem_toArray, List.getElem_cons_succ, List.getElem_cons_zero, List.setIfInBounds_toArray, List.set_cons_zero, List.set_cons_succ]
                        refine wpAnyH_done (by kernel_rfl) ?_ _
                        have hP9 := hP_0acw
                        have hN9 := hN_0acw
                        have hO9 := hO_0acw
                        have hU9 := hU_0acw
                        have hB9 := hB_0acw
                        clear hw1
                        obtain ⟨x0_, x1_, _, _, _⟩ := blk2 hP9
                        obtain ⟨y0_, y1_, _, _, _⟩ := blk2 hN9
                        go_wp2_with fail
                        refine (iDk_is d U9 c9 l k e f _ HSQ.out hU9.row (by omega) HH.out).mono ?_; rintro e' wy ⟨rfl, hwy⟩
                        have hPy := blk_next hP9 hwy
                        have hOy := hO9.next hwy
                        have hBy := bel_next hB9 hwy
                        obtain ⟨x2_, x3_, _, _, _⟩ := blk2 hPy
                        go_wp2_with fail
                        refine (iDk_is d _ cp xs k e (f + 1) _ HM.out hOy.row (by omega) HF.out).mono ?_; rintro e' wz ⟨rfl, hwz⟩
                        go_wp2
                        go_ret
                        exact ⟨rfl, bel_next hBy hwz⟩

set_option maxRecDepth 100000 in
theorem lifted (os : Os) (started : os.Started) (H : Type) (enc : TypeId × Value → H) :
    ReturnsInHanded {} Try.checked os 5 .any (Rows.fnDarkSpec.pre6 enc Try.prog Try.f5 Rows.fnDarkRow.domain false) (Rows.fnDarkSpec.post enc Try.prog Try.f5 false true false false) := by
  refine returnsInHanded_of_change (C := Try.checked) own started (by kernel_rfl) Try.func5
    (ChangeSpec.witness6 (enc := enc) (C := Try.checked) false ⟨#[], #[.slice none 0 0], []⟩ 8 (by kernel_rfl) (by kernel_rfl) (by kernel_rfl) (by kernel_rfl)) ?_
  intro W base args ds gs before hval0 hW hcnd _
  have hval : ∀ (j : Nat) t v, Try.f5.params[j]? = some t → args[j]? = some v → Value.okWide Try.prog W .any base t v := hval0
  have hW' := hW
  obtain ⟨p, q, hA0, hV, rfl, hfz, hnd⟩ := hW
  have hA : DataW.TrodAll enc Try.prog W 0 (fun _ => true) true Try.f5.params.toList args.toList ds p := hA0
  rw [Try.params5] at hA hval
  obtain ⟨v0, vs0, d0, ds0, p0, q0, hargs, rfl, rfl, h0, r0⟩ := trodAll_cons hA
  obtain ⟨rfl, rfl, rfl⟩ := trodAll_nil r0
  obtain rfl : args = #[v0] := by cases args; simp_all
  obtain ⟨rfl, rfl⟩ := trodVars_none hV
  have k0 := h0
  have lt0 : ∀ x ∈ p0, x.block < W.heap.size := by obtain ⟨m, hm⟩ := k0; exact DataW.trod_lt m _ _ _ hm
  obtain ⟨a0, len0, cap0, rfl⟩ := okWide_slice Try.underlying22 (hval 0 22 v0 rfl rfl)
  have w0 : CodeOk W a0 len0 cap0 := by
    obtain ⟨fuel, hf⟩ := h0
    rcases open_ints Try.underlying22 Try.underlying5 (by kernel_rfl) hf with ⟨hcs, _⟩ | ⟨x, l, c, zs, hcs, _, hl, hm, hz, _, hcell, hwz⟩
    · simp [Value.cells] at hcs
      obtain ⟨rfl, rfl, rfl⟩ := hcs
      exact code_nil W
    · simp [Value.cells] at hcs
      obtain ⟨rfl, rfl, rfl⟩ := hcs
      exact code_ok hl hm (by simp at hz; omega) hcell hwz
  clear hA0 hval0
  refine (walk W a0 len0 cap0 w0).mono fun e W' ⟨he, bel⟩ => ?_
  subst he
  exact ⟨_, rfl, _, _, _, [], _, [], hW', trodAll_mk1 (shut_bool Try.underlying4 _), (trodAll_cons_mk (Below.trod laidOut (by kernel_rfl) (of_decide_eq_true (by kernel_rfl)) k0 bel lt0) trodAll_mk0), rfl, bel.frame _, fun h => by cases h⟩

theorem over : Rows.fnDarkRow.holds Try.pinned (OpenSpec.ofChange Rows.fnDarkSpec) :=
  OpenClaim.holds_of_wide 5 Try.f5 rfl rfl rfl rfl rfl rfl rfl ⟨rfl, rfl, rfl, rfl, rfl⟩ rfl rfl rfl rfl rfl (by kernel_rfl) Try.func5 (by kernel_rfl)
    (of_decide_eq_true (by kernel_rfl)) (by unfold Func.isWrapper; first | (rw [if_pos (by decide +kernel)]; kernel_rfl) | (rw [if_neg (by decide +kernel)]; exact ⟨rfl, rfl⟩))
    (fun os started H enc _ => lifted os started H enc)

/-- The statement. -/
theorem proved : Rows.FnDarkSaid :=
  over
#print axioms proved
end Go.Proofs.Ytidppabconifkaa.fnDark
