/- FnCornersOf: whatever the input, the law returns true, and its arguments read as they did. No conditions beyond those of the statement's row. -/
import Derived.Test.YtlahjgjjebkpjabVj
import Derived.Test.YtlahjgjjebkpjabDd
import Derived.Test.YtlahjgjjebkpjabVy
namespace Go.Proofs.Ytlahjgjjebkpjab.fnCornersOf
open Go.Proofs.Ytlahjgjjebkpjab
open Go.ChangeShapes Go.WideShapes Go.ChangeAt Go.RowKit Go.Joins
set_option linter.unusedVariables false
set_option linter.unusedSimpArgs false
set_option linter.unnecessarySimpa false

theorem own : ownKnob Try.prog.godebug = none := by kernel_rfl
theorem laidOut : laidOutB Try.prog = true := by kernel_rfl

set_option maxRecDepth 100000 in
set_option maxHeartbeats 4000000 in
theorem walk (w : World) (a0 : Option Addr) (len0 cap0 : Nat) (w0 : CodeOk w a0 len0 cap0) :
    Calls Try.prog 10 #[.slice a0 len0 cap0] w fun e w' => e = .returned (.bool true) ∧ Below w.heap.size w w' := by
  by_cases hl : 1048576 < len0
  · have w0' := w0.2.1
    unfold maxLen at w0'
    clear w0
    go_enter Try.func10, Try.ntmps10
    go_wp2
    go_ret
    exact ⟨rfl, Below.refl _ _⟩
  · have w0' := w0.2.1
    unfold maxLen at w0'
    have hle := w0.1
    have HW := Lib.hid w0
    clear w0
    go_enter Try.func10, Try.ntmps10
    go_wp2_with fail
    refine (drCornersOf_any _ _ _ _ HW.out).mono ?_; rintro e w1 ⟨b0, b1, b2, b3, b4, r0, r1, r2, rfl, ⟨b0_0, b0_1⟩, ⟨b1_0, b1_1⟩, ⟨b2_0, b2_1⟩, ⟨b3_0, b3_1⟩, ⟨b4_0, b4_1⟩, ⟨r0_0, r0_1⟩, ⟨r1_0, r1_1⟩, ⟨r2_0, r2_1⟩, hB0⟩
    obtain ⟨l, hl⟩ : ∃ l, cnL b0 b1 b2 b3 b4 r0 r1 r2 = l := ⟨_, rfl⟩
    cases hb : blB b0 b1 b2 b3 b4
    · have hm : l.length = 0 := by rw [← hl, cnL_no1 hb]; rfl
      have HV := Lib.hid hl
      have HM := Lib.hid hm
      clear hl hm
      have hP1 : (w1.alloc (.cells #[.int .i64 b0, .int .i64 b1, .int .i64 b2, .int .i64 b3, .int .i64 b4] 26)).heap[w1.heap.size]? = some (.cells #[.int .i64 b0, .int .i64 b1, .int .i64 b2, .int .i64 b3, .int .i64 b4] 26) := by have := blk_new w1 (.cells #[.int .i64 b0, .int .i64 b1, .int .i64 b2, .int .i64 b3, .int .i64 b4] 26); simpa using this
      have hB1 := hB0.alloc hB0.size (.cells #[.int .i64 b0, .int .i64 b1, .int .i64 b2, .int .i64 b3, .int .i64 b4] 26)
      have zBP := hB0.size
      have zPR := blk_lt hP1
      have hR2 : ((w1.alloc (.cells #[.int .i64 b0, .int .i64 b1, .int .i64 b2, .int .i64 b3, .int .i64 b4] 26)).alloc (.cells #[.int .i64 r0, .int .i64 r1, .int .i64 r2] 28)).heap[w1.heap.size + 1]? = some (.cells #[.int .i64 r0, .int .i64 r1, .int .i64 r2] 28) := by have := blk_new (w1.alloc (.cells #[.int .i64 b0, .int .i64 b1, .int .i64 b2, .int .i64 b3, .int .i64 b4] 26)) (.cells #[.int .i64 r0, .int .i64 r1, .int .i64 r2] 28); simpa using this
      have hP2 := blk_old hP1 (.cells #[.int .i64 r0, .int .i64 r1, .int .i64 r2] 28)
      have hB2 := hB1.alloc hB1.size (.cells #[.int .i64 r0, .int .i64 r1, .int .i64 r2] 28)
      have zBR := hB1.size
      obtain ⟨cP2_0, cP2_1, cP2_2, cP2_3, cP2_4, fP2_0, fP2_1, fP2_2, fP2_3, fP2_4, zP2⟩ := blk5 hP2
      obtain ⟨cR2_0, cR2_1, cR2_2, fR2_0, fR2_1, fR2_2, zR2⟩ := blk3 hR2
      go_wp2_with fail
      refine (iCn_is _ HV.out).mono ?_; rintro e' w3 ⟨Ai, ci, rfl, hI3, hw3⟩
      have hP3 := blk_next hP2 hw3
      have hR3 := blk_next hR2 hw3
      have hB3 := bel_next hB2 hw3
      rw [HM.out]
      obtain ⟨cP3_0, cP3_1, cP3_2, cP3_3, cP3_4, fP3_0, fP3_1, fP3_2, fP3_3, fP3_4, zP3⟩ := blk5 hP3
      obtain ⟨cR3_0, cR3_1, cR3_2, fR3_0, fR3_1, fR3_2, zR3⟩ := blk3 hR3
      go_wp2_with fail
      refine (sCn_is _ HV.out).mono ?_; rintro e' w4 ⟨As, cs, rfl, hS4, hw4⟩
      have hP4 := blk_next hP3 hw4
      have hR4 := blk_next hR3 hw4
      have hI4 := hI3.next hw4
      have hB4 := bel_next hB3 hw4
      rw [HM.out]
      go_wp2_with fail
      refine (sameS_any _ _ _ _ l HM.out hI4.row hS4.row (by omega)).mono ?_; rintro e' w5 ⟨rfl, hw5⟩
      have hP5 := blk_next hP4 hw5
      have hR5 := blk_next hR4 hw5
      have hI5 := hI4.next hw5
      have hS5 := hS4.next hw5
      have hB5 := bel_next hB4 hw5
      go_wp2_with fail
      refine (alive_bel _).mono ?_; rintro e' w6 ⟨rfl, hw6⟩
      have hP6 := blk_next hP5 hw6
      have hR6 := blk_next hR5 hw6
      have hI6 := hI5.next hw6
      have hB6 := bel_next hB5 hw6
      go_wp2
      go_ret
      exact ⟨rfl, by first | exact hB6 | exact hB6.drew⟩
    · cases hr : ryB r0 r1 r2
      · have hm : l.length = 0 := by rw [← hl, cnL_no2 hr]; rfl
        have HV := Lib.hid hl
        have HM := Lib.hid hm
        clear hl hm
        have hP1 : (w1.alloc (.cells #[.int .i64 b0, .int .i64 b1, .int .i64 b2, .int .i64 b3, .int .i64 b4] 26)).heap[w1.heap.size]? = some (.cells #[.int .i64 b0, .int .i64 b1, .int .i64 b2, .int .i64 b3, .int .i64 b4] 26) := by have := blk_new w1 (.cells #[.int .i64 b0, .int .i64 b1, .int .i64 b2, .int .i64 b3, .int .i64 b4] 26); simpa using this
        have hB1 := hB0.alloc hB0.size (.cells #[.int .i64 b0, .int .i64 b1, .int .i64 b2, .int .i64 b3, .int .i64 b4] 26)
        have zBP := hB0.size
        have zPR := blk_lt hP1
        have hR2 : ((w1.alloc (.cells #[.int .i64 b0, .int .i64 b1, .int .i64 b2, .int .i64 b3, .int .i64 b4] 26)).alloc (.cells #[.int .i64 r0, .int .i64 r1, .int .i64 r2] 28)).heap[w1.heap.size + 1]? = some (.cells #[.int .i64 r0, .int .i64 r1, .int .i64 r2] 28) := by have := blk_new (w1.alloc (.cells #[.int .i64 b0, .int .i64 b1, .int .i64 b2, .int .i64 b3, .int .i64 b4] 26)) (.cells #[.int .i64 r0, .int .i64 r1, .int .i64 r2] 28); simpa using this
        have hP2 := blk_old hP1 (.cells #[.int .i64 r0, .int .i64 r1, .int .i64 r2] 28)
        have hB2 := hB1.alloc hB1.size (.cells #[.int .i64 r0, .int .i64 r1, .int .i64 r2] 28)
        have zBR := hB1.size
        obtain ⟨cP2_0, cP2_1, cP2_2, cP2_3, cP2_4, fP2_0, fP2_1, fP2_2, fP2_3, fP2_4, zP2⟩ := blk5 hP2
        obtain ⟨cR2_0, cR2_1, cR2_2, fR2_0, fR2_1, fR2_2, zR2⟩ := blk3 hR2
        go_wp2_with fail
        refine (iCn_is _ HV.out).mono ?_; rintro e' w3 ⟨Ai, ci, rfl, hI3, hw3⟩
        have hP3 := blk_next hP2 hw3
        have hR3 := blk_next hR2 hw3
        have hB3 := bel_next hB2 hw3
        rw [HM.out]
        obtain ⟨cP3_0, cP3_1, cP3_2, cP3_3, cP3_4, fP3_0, fP3_1, fP3_2, fP3_3, fP3_4, zP3⟩ := blk5 hP3
        obtain ⟨cR3_0, cR3_1, cR3_2, fR3_0, fR3_1, fR3_2, zR3⟩ := blk3 hR3
        go_wp2_with fail
        refine (sCn_is _ HV.out).mono ?_; rintro e' w4 ⟨As, cs, rfl, hS4, hw4⟩
        have hP4 := blk_next hP3 hw4
        have hR4 := blk_next hR3 hw4
        have hI4 := hI3.next hw4
        have hB4 := bel_next hB3 hw4
        rw [HM.out]
        go_wp2_with fail
        refine (sameS_any _ _ _ _ l HM.out hI4.row hS4.row (by omega)).mono ?_; rintro e' w5 ⟨rfl, hw5⟩
        have hP5 := blk_next hP4 hw5
        have hR5 := blk_next hR4 hw5
        have hI5 := hI4.next hw5
        have hS5 := hS4.next hw5
        have hB5 := bel_next hB4 hw5
        go_wp2_with fail
        refine (alive_bel _).mono ?_; rintro e' w6 ⟨rfl, hw6⟩
        have hP6 := blk_next hP5 hw6
        have hR6 := blk_next hR5 hw6
        have hI6 := hI5.next hw6
        have hB6 := bel_next hB5 hw6
        go_wp2
        go_ret
        exact ⟨rfl, by first | exact hB6 | exact hB6.drew⟩
      · have hm : l.length = 4 := by rw [← hl, cnL_yes hb hr]; simp [markS_len]
        have HCN := Lib.hid (cn_at hb hr hl)
        have HL4 : Hid (l = [(tipN b0 r0 b4 r2, tipN b2 r1 b4 r2, r2), (tipN b1 r0 b4 r2, tipN b2 r1 b4 r2, r2), (tipN b1 r0 b4 r2, tipN b3 r1 b4 r2, r2), (tipN b0 r0 b4 r2, tipN b3 r1 b4 r2, r2)]) := by show _ = _; rw [← hl, cnL_yes hb hr]; rfl
        have bb := blB_iff.1 hb
        have br := ryB_iff.1 hr
        have HB_ := Lib.hid hb
        have HR_ := Lib.hid hr
        have HV := Lib.hid hl
        have HM := Lib.hid hm
        clear hl hm hb hr
        have hP1 : (w1.alloc (.cells #[.int .i64 b0, .int .i64 b1, .int .i64 b2, .int .i64 b3, .int .i64 b4] 26)).heap[w1.heap.size]? = some (.cells #[.int .i64 b0, .int .i64 b1, .int .i64 b2, .int .i64 b3, .int .i64 b4] 26) := by have := blk_new w1 (.cells #[.int .i64 b0, .int .i64 b1, .int .i64 b2, .int .i64 b3, .int .i64 b4] 26); simpa using this
        have hB1 := hB0.alloc hB0.size (.cells #[.int .i64 b0, .int .i64 b1, .int .i64 b2, .int .i64 b3, .int .i64 b4] 26)
        have zBP := hB0.size
        have zPR := blk_lt hP1
        have hR2 : ((w1.alloc (.cells #[.int .i64 b0, .int .i64 b1, .int .i64 b2, .int .i64 b3, .int .i64 b4] 26)).alloc (.cells #[.int .i64 r0, .int .i64 r1, .int .i64 r2] 28)).heap[w1.heap.size + 1]? = some (.cells #[.int .i64 r0, .int .i64 r1, .int .i64 r2] 28) := by have := blk_new (w1.alloc (.cells #[.int .i64 b0, .int .i64 b1, .int .i64 b2, .int .i64 b3, .int .i64 b4] 26)) (.cells #[.int .i64 r0, .int .i64 r1, .int .i64 r2] 28); simpa using this
        have hP2 := blk_old hP1 (.cells #[.int .i64 r0, .int .i64 r1, .int .i64 r2] 28)
        have hB2 := hB1.alloc hB1.size (.cells #[.int .i64 r0, .int .i64 r1, .int .i64 r2] 28)
        have zBR := hB1.size
        obtain ⟨cP2_0, cP2_1, cP2_2, cP2_3, cP2_4, fP2_0, fP2_1, fP2_2, fP2_3, fP2_4, zP2⟩ := blk5 hP2
        obtain ⟨cR2_0, cR2_1, cR2_2, fR2_0, fR2_1, fR2_2, zR2⟩ := blk3 hR2
        go_wp2_with fail
        refine (iCn_is _ HV.out).mono ?_; rintro e' w3 ⟨Ai, ci, rfl, hI3, hw3⟩
        have hP3 := blk_next hP2 hw3
        have hR3 := blk_next hR2 hw3
        have hB3 := bel_next hB2 hw3
        rw [HM.out]
        obtain ⟨cP3_0, cP3_1, cP3_2, cP3_3, cP3_4, fP3_0, fP3_1, fP3_2, fP3_3, fP3_4, zP3⟩ := blk5 hP3
        obtain ⟨cR3_0, cR3_1, cR3_2, fR3_0, fR3_1, fR3_2, zR3⟩ := blk3 hR3
        go_wp2_with fail
        refine (sCn_is _ HV.out).mono ?_; rintro e' w4 ⟨As, cs, rfl, hS4, hw4⟩
        have hP4 := blk_next hP3 hw4
        have hR4 := blk_next hR3 hw4
        have hI4 := hI3.next hw4
        have hB4 := bel_next hB3 hw4
        rw [HM.out]
        go_wp2_with fail
        refine (sameS_any _ _ _ _ l HM.out hI4.row hS4.row (by omega)).mono ?_; rintro e' w5 ⟨rfl, hw5⟩
        have hP5 := blk_next hP4 hw5
        have hR5 := blk_next hR4 hw5
        have hI5 := hI4.next hw5
        have hS5 := hS4.next hw5
        have hB5 := bel_next hB4 hw5
        go_wp2_with fail
        have hrow5 := hI5.row
        go_loopw [6] (fun s6 wr => ∃ k : Nat, k ≤ 4 ∧ s6 = .int .i64 k ∧ wr.heap[w1.heap.size]? = some (.cells #[.int .i64 b0, .int .i64 b1, .int .i64 b2, .int .i64 b3, .int .i64 b4] 26) ∧ wr.heap[w1.heap.size + 1]? = some (.cells #[.int .i64 r0, .int .i64 r1, .int .i64 r2] 28) ∧ SRow encSpot wr Ai l ∧ Below w.heap.size w wr) (fun s6 _ => (4 - intOf s6).toNat)
        case atStart => exact ⟨0, by omega, rfl, hP5, hR5, hrow5, hB5⟩
        case round =>
          clear hP5 hR5
          obtain ⟨k, k1, rfl, hP0, hR0, hrow, hB0⟩ := hrel
          by_cases hlt : k < 4
          · have hk : k < l.length := by rw [HM.out]; exact hlt
            have hki : (k : Int) < 4 := by omega
            obtain ⟨bk, off, rfl, hbk, c0, c1, c2⟩ := rowSpot hrow hk
            obtain ⟨E, N, ce, cn, hlk, hE, hN, hce, hcn⟩ := HCN.out k hk
            rw [hlk] at c0 c1 c2
            simp only at c0 c1 c2
            have mE := mulC (p := 50) (q := 20) (a := ce) (b := r2) (by omega) (by omega) (by omega) (by omega)
            have nE := mulC (p := 20) (q := 30) (a := r0) (b := b4) (by omega) (by omega) (by omega) (by omega)
            simp only [Int.reduceMul, Int.reduceNeg] at mE nE
            have bE : -1600 ≤ E ∧ E ≤ 1600 := by omega
            have bdE := tdiv_bd (a := E) (b := r2) (B := 1600) (by omega) bE.1 bE.2
            have btE := tmod_bd (a := E) (b := r2) (by omega)
            have dmE := Int.tdiv_mul_add_tmod E r2
            obtain ⟨dE, hdE⟩ : ∃ z : Int, E.tdiv r2 = z := ⟨_, rfl⟩
            obtain ⟨tE, htE⟩ : ∃ z : Int, E.tmod r2 = z := ⟨_, rfl⟩
            rw [hdE] at bdE dmE
            rw [htE] at btE dmE
            obtain ⟨bdE0, bdE1⟩ := bdE
            obtain ⟨btE0, btE1⟩ := btE
            obtain ⟨bE0, bE1⟩ := bE
            have mN := mulC (p := 50) (q := 20) (a := cn) (b := r2) (by omega) (by omega) (by omega) (by omega)
            have nN := mulC (p := 20) (q := 30) (a := r1) (b := b4) (by omega) (by omega) (by omega) (by omega)
            simp only [Int.reduceMul, Int.reduceNeg] at mN nN
            have bN : -1600 ≤ N ∧ N ≤ 1600 := by omega
            have bdN := tdiv_bd (a := N) (b := r2) (B := 1600) (by omega) bN.1 bN.2
            have btN := tmod_bd (a := N) (b := r2) (by omega)
            have dmN := Int.tdiv_mul_add_tmod N r2
            obtain ⟨dN, hdN⟩ : ∃ z : Int, N.tdiv r2 = z := ⟨_, rfl⟩
            obtain ⟨tN, htN⟩ : ∃ z : Int, N.tmod r2 = z := ⟨_, rfl⟩
            rw [hdN] at bdN dmN
            rw [htN] at btN dmN
            obtain ⟨bdN0, bdN1⟩ := bdN
            obtain ⟨btN0, btN1⟩ := btN
            obtain ⟨bN0, bN1⟩ := bN
            have HSH : Hid (tE = 0 → tN = 0 → plB dE dN = true → shB dE dN b0 b1 b2 b3 b4 r0 r1 r2 = true) := by
              intro z1 z2 hp
              rw [shB_iff]
              exact ⟨hp, HB_.out, HR_.out, meet_corner (ce := ce) (cn := cn) (by omega) (by omega) (by omega) (by omega) hce.1 hce.2 hcn.1 hcn.2⟩
            have hr2 : ¬ r2 = 0 := by omega
            have hr3 : (r2 == 0) = false := by rw [beq_eq_false_iff_ne]; exact hr2
            obtain ⟨pv_, hpv⟩ : ∃ z, plB dE dN = z := ⟨_, rfl⟩
            have HPV := Lib.hid hpv
            clear hpv dmE dmN mE mN nE nN hE hN hce hcn
            obtain ⟨cP0_0, cP0_1, cP0_2, cP0_3, cP0_4, fP0_0, fP0_1, fP0_2, fP0_3, fP0_4, zP0⟩ := blk5 hP0
            obtain ⟨cR0_0, cR0_1, cR0_2, fR0_0, fR0_1, fR0_2, zR0⟩ := blk3 hR0
            have zPS := blk_lt hP0
            have zRS := blk_lt hR0
            have hS1 : (wr.alloc (.cells #[.int .i64 E, .int .i64 N, .int .i64 r2] 63)).heap[wr.heap.size]? = some (.cells #[.int .i64 E, .int .i64 N, .int .i64 r2] 63) := by have := blk_new wr (.cells #[.int .i64 E, .int .i64 N, .int .i64 r2] 63); simpa using this
            have hP1 := blk_old hP0 (.cells #[.int .i64 E, .int .i64 N, .int .i64 r2] 63)
            have hR1 := blk_old hR0 (.cells #[.int .i64 E, .int .i64 N, .int .i64 r2] 63)
            have hB1 := hB0.alloc hB0.size (.cells #[.int .i64 E, .int .i64 N, .int .i64 r2] 63)
            have zBS := hB0.size
            go_wp2_with fail
            obtain ⟨sa, sb, sc, _, _, _, sz⟩ := blk3 hS1
            go_region
            have zPD := blk_lt hP1
            have zRD := blk_lt hR1
            have zSD := blk_lt hS1
            have hD2 : ((wr.alloc (.cells #[.int .i64 E, .int .i64 N, .int .i64 r2] 63)).alloc (.cells #[.int .i64 dE, .int .i64 dN] 24)).heap[wr.heap.size + 1]? = some (.cells #[.int .i64 dE, .int .i64 dN] 24) := by have := blk_new (wr.alloc (.cells #[.int .i64 E, .int .i64 N, .int .i64 r2] 63)) (.cells #[.int .i64 dE, .int .i64 dN] 24); simpa using this
            have hP2 := blk_old hP1 (.cells #[.int .i64 dE, .int .i64 dN] 24)
            have hR2 := blk_old hR1 (.cells #[.int .i64 dE, .int .i64 dN] 24)
            have hS2 := blk_old hS1 (.cells #[.int .i64 dE, .int .i64 dN] 24)
            have hB2 := hB1.alloc hB1.size (.cells #[.int .i64 dE, .int .i64 dN] 24)
            have zBD := hB1.size
            obtain ⟨cP2_0, cP2_1, cP2_2, cP2_3, cP2_4, fP2_0, fP2_1, fP2_2, fP2_3, fP2_4, zP2⟩ := blk5 hP2
            obtain ⟨cR2_0, cR2_1, cR2_2, fR2_0, fR2_1, fR2_2, zR2⟩ := blk3 hR2
            obtain ⟨cS2_0, cS2_1, cS2_2, fS2_0, fS2_1, fS2_2, zS2⟩ := blk3 hS2
            obtain ⟨cD2_0, cD2_1, fD2_0, fD2_1, zD2⟩ := blk2 hD2
            have hx := (bel2 wr (.cells #[.int .i64 E, .int .i64 N, .int .i64 r2] 63) (.cells #[.int .i64 dE, .int .i64 dN] 24)).drew
            have hrow2 := hrow.next hx
            have hPd := blk_drw hP2
            have hRd := blk_drw hR2
            have hDd := blk_drw hD2
            have hBd := hB2.drew
            go_wp2_with fail
            · refine (iPV_is _ HPV.out).mono ?_; rintro e w7 ⟨rfl, hw7⟩
              have hP7 := blk_next hPd hw7
              have hR7 := blk_next hRd hw7
              have hD7 := blk_next hDd hw7
              have hrow7 := hrow2.next hw7
              have hB7 := bel_next hBd hw7
              cases pv_
              · go_wp2_with fail
                go_roundw
                case rel => exact ⟨k + 1, by omega, by go_num, hP7, hR7, hrow7, hB7⟩
                case measure => simp [intOf]; omega
              · obtain ⟨_, _, _, _, _, _, _, _, _, _, _⟩ := blk5 hP7
                obtain ⟨_, _, _, _, _, _, _⟩ := blk3 hR7
                obtain ⟨_, _, _, _, _⟩ := blk2 hD7
                have HSX := Lib.hid (HSH.out (by first | assumption | omega) (by first | assumption | omega) HPV.out)
                go_wp2_with fail
                refine (iSh_is _ HSX.out).mono ?_; rintro e w8 ⟨rfl, hw8⟩
                have hP8 := blk_next hP7 hw8
                have hR8 := blk_next hR7 hw8
                have hrow8 := hrow7.next hw8
                have hB8 := bel_next hB7 hw8
                go_wp2_with fail
                go_roundw
                case rel => exact ⟨k + 1, by omega, by go_num, hP8, hR8, hrow8, hB8⟩
                case measure => simp [intOf]; omega
            · exact ⟨⟨k + 1, by omega, by go_num, hPd, hRd, hrow2, hBd⟩, by simp [intOf]; omega⟩
            · exact ⟨⟨k + 1, by omega, by go_num, hPd, hRd, hrow2, hBd⟩, by simp [intOf]; omega⟩
          · have hki : ¬ (k : Int) < 4 := by omega
            obtain rfl : k = 4 := by omega
            obtain ⟨eW, heW⟩ : ∃ z : Int, tipN b0 r0 b4 r2 = z := ⟨_, rfl⟩
            obtain ⟨eE, heE⟩ : ∃ z : Int, tipN b1 r0 b4 r2 = z := ⟨_, rfl⟩
            obtain ⟨nS, hnS⟩ : ∃ z : Int, tipN b2 r1 b4 r2 = z := ⟨_, rfl⟩
            obtain ⟨nN, hnN⟩ : ∃ z : Int, tipN b3 r1 b4 r2 = z := ⟨_, rfl⟩
            have hl4 := HL4.out
            rw [heW, heE, hnS, hnN] at hl4
            obtain ⟨wd, hwd⟩ : ∃ z : Int, r2 * (b1 - b0) = z := ⟨_, rfl⟩
            obtain ⟨lg, hlg⟩ : ∃ z : Int, r2 * (b3 - b2) = z := ⟨_, rfl⟩
            have mw := mulC (p := 20) (q := 100) (a := r2) (b := b1 - b0) (by omega) (by omega) (by omega) (by omega)
            have ml := mulC (p := 20) (q := 100) (a := r2) (b := b3 - b2) (by omega) (by omega) (by omega) (by omega)
            simp only [Int.reduceMul, Int.reduceNeg] at mw ml
            have m1eW := mulC (p := 50) (q := 20) (a := b0) (b := r2) (by omega) (by omega) (by omega) (by omega)
            have m2eW := mulC (p := 20) (q := 30) (a := r0) (b := b4) (by omega) (by omega) (by omega) (by omega)
            simp only [Int.reduceMul, Int.reduceNeg] at m1eW m2eW
            have beW : -1600 ≤ eW ∧ eW ≤ 1600 := by rw [← heW]; unfold tipN; omega
            have m1eE := mulC (p := 50) (q := 20) (a := b1) (b := r2) (by omega) (by omega) (by omega) (by omega)
            have m2eE := mulC (p := 20) (q := 30) (a := r0) (b := b4) (by omega) (by omega) (by omega) (by omega)
            simp only [Int.reduceMul, Int.reduceNeg] at m1eE m2eE
            have beE : -1600 ≤ eE ∧ eE ≤ 1600 := by rw [← heE]; unfold tipN; omega
            have m1nS := mulC (p := 50) (q := 20) (a := b2) (b := r2) (by omega) (by omega) (by omega) (by omega)
            have m2nS := mulC (p := 20) (q := 30) (a := r1) (b := b4) (by omega) (by omega) (by omega) (by omega)
            simp only [Int.reduceMul, Int.reduceNeg] at m1nS m2nS
            have bnS : -1600 ≤ nS ∧ nS ≤ 1600 := by rw [← hnS]; unfold tipN; omega
            have m1nN := mulC (p := 50) (q := 20) (a := b3) (b := r2) (by omega) (by omega) (by omega) (by omega)
            have m2nN := mulC (p := 20) (q := 30) (a := r1) (b := b4) (by omega) (by omega) (by omega) (by omega)
            simp only [Int.reduceMul, Int.reduceNeg] at m1nN m2nN
            have bnN : -1600 ≤ nN ∧ nN ≤ 1600 := by rw [← hnN]; unfold tipN; omega
            have dW : eE - eW = wd := by rw [← heE, ← heW, ← hwd]; unfold tipN; grind
            have dL : nN - nS = lg := by rw [← hnN, ← hnS, ← hlg]; unfold tipN; grind
            clear m1eW m2eW heW m1eE m2eE heE m1nS m2nS hnS m1nN m2nN hnN
            obtain ⟨mw0, mw1⟩ := mw
            obtain ⟨ml0, ml1⟩ := ml
            obtain ⟨beW0, beW1⟩ := beW
            obtain ⟨beE0, beE1⟩ := beE
            obtain ⟨bnS0, bnS1⟩ := bnS
            obtain ⟨bnN0, bnN1⟩ := bnN
            have hr0 := rowSpot hrow (i := 0) (by rw [HM.out]; omega)
            have hr1 := rowSpot hrow (i := 1) (by rw [HM.out]; omega)
            have hr2 := rowSpot hrow (i := 2) (by rw [HM.out]; omega)
            have hr3 := rowSpot hrow (i := 3) (by rw [HM.out]; omega)
            simp only [hl4] at hr0 hr1 hr2 hr3
            obtain ⟨bk, off, rfl, hbk, a0_, a1_, a2_⟩ := hr0
            obtain ⟨_, _, e, _, x10, x11, x12⟩ := hr1
            simp only [Option.some.injEq, Addr.mk.injEq, and_true] at e
            obtain ⟨rfl, rfl⟩ := e
            obtain ⟨_, _, e, _, x20, x21, x22⟩ := hr2
            simp only [Option.some.injEq, Addr.mk.injEq, and_true] at e
            obtain ⟨rfl, rfl⟩ := e
            obtain ⟨_, _, e, _, x30, x31, x32⟩ := hr3
            simp only [Option.some.injEq, Addr.mk.injEq, and_true] at e
            obtain ⟨rfl, rfl⟩ := e
            simp only [List.getElem_cons_zero, List.getElem_cons_succ, Nat.zero_mul, Nat.add_zero, Nat.reduceMul, Nat.add_assoc, Nat.reduceAdd, Nat.one_mul] at a0_ a1_ a2_ x10 x11 x12 x20 x21 x22 x30 x31 x32
            obtain ⟨p0_, p1_, p2_, p3_, p4_, _, _, _, _, _, zp_⟩ := blk5 hP0
            obtain ⟨q0_, q1_, q2_, _, _, _, zq_⟩ := blk3 hR0
            go_wp2_with fail
            go_region
            go_wp2_with fail
            go_region
            go_wp2_with fail
            go_region
            go_wp2_with fail
            go_ret
            exact ⟨ret_bool (by simp [dW, dL]), by first | exact hB0 | exact hB0.drew.drew.drew | exact hB0.drew⟩

set_option maxRecDepth 100000 in
theorem lifted (os : Os) (started : os.Started) (H : Type) (enc : TypeId × Value → H) :
    ReturnsInHanded {} Try.checked os 10 .any (Rows.fnCornersOfSpec.pre6 enc Try.prog Try.f10 Rows.fnCornersOfRow.domain false) (Rows.fnCornersOfSpec.post enc Try.prog Try.f10 false true false false) := by
  refine returnsInHanded_of_change (C := Try.checked) own started (by kernel_rfl) Try.func10
    (ChangeSpec.witness6 (enc := enc) (C := Try.checked) false ⟨#[], #[.slice none 0 0], []⟩ 8 (by kernel_rfl) (by kernel_rfl) (by kernel_rfl) (by kernel_rfl)) ?_
  intro W base args ds gs before hval0 hW hcnd _
  have hval : ∀ (j : Nat) t v, Try.f10.params[j]? = some t → args[j]? = some v → Value.okWide Try.prog W .any base t v := hval0
  have hW' := hW
  obtain ⟨p, q, hA0, hV, rfl, hfz, hnd⟩ := hW
  have hA : DataW.TrodAll enc Try.prog W 0 (fun _ => true) true Try.f10.params.toList args.toList ds p := hA0
  rw [Try.params10] at hA hval
  obtain ⟨v0, vs0, d0, ds0, p0, q0, hargs, rfl, rfl, h0, r0⟩ := trodAll_cons hA
  obtain ⟨rfl, rfl, rfl⟩ := trodAll_nil r0
  obtain rfl : args = #[v0] := by cases args; simp_all
  obtain ⟨rfl, rfl⟩ := trodVars_none hV
  have k0 := h0
  have lt0 : ∀ x ∈ p0, x.block < W.heap.size := by obtain ⟨m, hm⟩ := k0; exact DataW.trod_lt m _ _ _ hm
  obtain ⟨a0, len0, cap0, rfl⟩ := okWide_slice Try.underlying22 (hval 0 22 v0 rfl rfl)
  have w0 : CodeOk W a0 len0 cap0 := by
    obtain ⟨fuel, hf⟩ := h0
    rcases open_ints Try.underlying22 Try.underlying5 (by kernel_rfl) hf with ⟨hcs, _⟩ | ⟨x, l, c, zs, hcs, _, hl, hm, hz, _, hcell, hwz⟩
    · simp [Value.cells] at hcs
      obtain ⟨rfl, rfl, rfl⟩ := hcs
      exact code_nil W
    · simp [Value.cells] at hcs
      obtain ⟨rfl, rfl, rfl⟩ := hcs
      exact code_ok hl hm (by simp at hz; omega) hcell hwz
  clear hA0 hval0
  refine (walk W a0 len0 cap0 w0).mono fun e W' ⟨he, bel⟩ => ?_
  subst he
  exact ⟨_, rfl, _, _, _, [], _, [], hW', trodAll_mk1 (shut_bool Try.underlying4 _), (trodAll_cons_mk (Below.trod laidOut (by kernel_rfl) (of_decide_eq_true (by kernel_rfl)) k0 bel lt0) trodAll_mk0), rfl, bel.frame _, fun h => by cases h⟩

theorem over : Rows.fnCornersOfRow.holds Try.pinned (OpenSpec.ofChange Rows.fnCornersOfSpec) :=
  OpenClaim.holds_of_wide 10 Try.f10 rfl rfl rfl rfl rfl rfl rfl ⟨rfl, rfl, rfl, rfl, rfl⟩ rfl rfl rfl rfl rfl (by kernel_rfl) Try.func10 (by kernel_rfl)
    (of_decide_eq_true (by kernel_rfl)) (by unfold Func.isWrapper; first | (rw [if_pos (by decide +kernel)]; kernel_rfl) | (rw [if_neg (by decide +kernel)]; exact ⟨rfl, rfl⟩))
    (fun os started H enc _ => lifted os started H enc)

/-- The statement. -/
theorem proved : Rows.FnCornersOfSaid :=
  over
#print axioms proved
end Go.Proofs.Ytlahjgjjebkpjab.fnCornersOf
