/- FnLineOf: whatever the input, the law returns true, and its arguments read as they did. No conditions beyond those of the statement's row. -/
import Derived.Test.YtgbelpkhfaajoabHi
import Derived.Test.YtgbelpkhfaajoabDh
import Derived.Test.YtgbelpkhfaajoabLp
namespace Go.Proofs.Ytgbelpkhfaajoab.fnLineOf
open Go.Proofs.Ytgbelpkhfaajoab
open Go.ChangeShapes Go.WideShapes Go.ChangeAt Go.RowKit Go.Joins
set_option linter.unusedVariables false
set_option linter.unusedSimpArgs false
set_option linter.unnecessarySimpa false

theorem own : ownKnob Try.prog.godebug = none := by kernel_rfl
theorem laidOut : laidOutB Try.prog = true := by kernel_rfl

set_option maxRecDepth 100000 in
set_option maxHeartbeats 4000000 in
theorem walk (w : World) (a0 : Option Addr) (len0 cap0 : Nat) (w0 : CodeOk w a0 len0 cap0) :
    Calls Try.prog 4 #[.slice a0 len0 cap0] w fun e w' => e = .returned (.bool true) ∧ Below w.heap.size w w' := by
  by_cases hl : 1048576 < len0
  · have w0' := w0.2.1
    unfold maxLen at w0'
    clear w0
    go_enter Try.func4, Try.ntmps4
    go_wp2
    go_ret
    exact ⟨rfl, Below.refl _ _⟩
  · have w0' := w0.2.1
    unfold maxLen at w0'
    have hle := w0.1
    have HW := Lib.hid w0
    clear w0
    go_enter Try.func4, Try.ntmps4
    go_wp2_with fail
    refine (drLineOf_any _ _ _ _ HW.out).mono ?_; rintro e' w1 ⟨l, h, rfl, l0, l1, h0, h1, hB0⟩
    cases hl : laB l
    · have HN := Lib.hid (show laB l = false ∨ (laB l = true ∧ hrB h = false) from .inl hl)
      clear hl
      have hB0 := hB0
      go_wp2_with fail
      refine (iLn_f _ _ _ HN.out).mono ?_; rintro e' w1 ⟨rfl, hw1⟩
      have hB1 := bel_next hB0 hw1
      have hA2 := blk_new w1 (.cells #[.int .i64 0, .int .i64 0] 30)
      have hB2 := hB1.alloc hB1.size (.cells #[.int .i64 0, .int .i64 0] 30)
      go_wp2_with fail
      refine (sLn_f _ _ _ HN.out).mono ?_; rintro e' w3 ⟨rfl, hw3⟩
      have hA3 := blk_next hA2 hw3
      have hB3 := bel_next hB2 hw3
      have hD4 := blk_new w3 (.cells #[.int .i64 0, .int .i64 0] 30)
      have hA4 := blk_old hA3 (.cells #[.int .i64 0, .int .i64 0] 30)
      have hB4 := hB3.alloc hB3.size (.cells #[.int .i64 0, .int .i64 0] 30)
      obtain ⟨cA4_0, cA4_1, fA4_0, fA4_1, zA4⟩ := blk2 hA4
      obtain ⟨cD4_0, cD4_1, fD4_0, fD4_1, zD4⟩ := blk2 hD4
      go_wp2_with fail
      refine (alive_any _).mono ?_; rintro e' w' ⟨rfl, rfl⟩
      go_wp2
      go_ret
      exact ⟨rfl, by first | exact hB4 | exact hB4.drew⟩
    · cases hh : hrB h
      · have HN := Lib.hid (show laB l = false ∨ (laB l = true ∧ hrB h = false) from .inr ⟨hl, hh⟩)
        clear hl hh
        have hB0 := hB0
        go_wp2_with fail
        refine (iLn_f _ _ _ HN.out).mono ?_; rintro e' w1 ⟨rfl, hw1⟩
        have hB1 := bel_next hB0 hw1
        have hA2 := blk_new w1 (.cells #[.int .i64 0, .int .i64 0] 30)
        have hB2 := hB1.alloc hB1.size (.cells #[.int .i64 0, .int .i64 0] 30)
        go_wp2_with fail
        refine (sLn_f _ _ _ HN.out).mono ?_; rintro e' w3 ⟨rfl, hw3⟩
        have hA3 := blk_next hA2 hw3
        have hB3 := bel_next hB2 hw3
        have hD4 := blk_new w3 (.cells #[.int .i64 0, .int .i64 0] 30)
        have hA4 := blk_old hA3 (.cells #[.int .i64 0, .int .i64 0] 30)
        have hB4 := hB3.alloc hB3.size (.cells #[.int .i64 0, .int .i64 0] 30)
        obtain ⟨cA4_0, cA4_1, fA4_0, fA4_1, zA4⟩ := blk2 hA4
        obtain ⟨cD4_0, cD4_1, fD4_0, fD4_1, zD4⟩ := blk2 hD4
        go_wp2_with fail
        refine (alive_any _).mono ?_; rintro e' w' ⟨rfl, rfl⟩
        go_wp2
        go_ret
        exact ⟨rfl, by first | exact hB4 | exact hB4.drew⟩
      · obtain ⟨g0, g1⟩ := hrB_iff.1 hh
        by_cases c1 : h ≤ -12
        · obtain ⟨E, he⟩ : ∃ z_ : Int, lnE l h = z_ := ⟨_, rfl⟩
          obtain ⟨N, hn⟩ : ∃ z_ : Int, lnN h = z_ := ⟨_, rfl⟩
          obtain ⟨b0, b1, b2, b3⟩ := ln_bd l h
          rw [he] at b0 b1
          rw [hn] at b2 b3
          have e2 : lnE l (h + 12) = -E := by rw [lnE_half l h, he]
          have n2 : lnN (h + 12) = -N := by rw [lnN_half h, hn]
          have r2 : hrB (h + 12) = true := hrB_iff.2 (by omega)
          have r3 : laB l = false ∨ (laB l = true ∧ hrB (-h) = false) := .inr ⟨hl, by unfold hrB; exact decide_eq_false (by omega)⟩
          obtain ⟨U, e4⟩ : ∃ z_ : Int, lnE l (h + 1) = z_ := ⟨_, rfl⟩
          obtain ⟨V, n4⟩ : ∃ z_ : Int, lnN (h + 1) = z_ := ⟨_, rfl⟩
          obtain ⟨d0, d1, d2, d3⟩ := ln_bd l (h + 1)
          rw [e4] at d0 d1
          rw [n4] at d2 d3
          have r4 : hrB (h + 1) = true := hrB_iff.2 (by omega)
          have hc := lines_follow (l := l) (h := h) (laB_iff.1 hl).1 (laB_iff.1 hl).2 g0 g1
          rw [he, hn, e4, n4] at hc
          have hx : crossW E N U V = E * V - N * U := crossW_in ⟨b0, b1⟩ ⟨b2, b3⟩ ⟨d0, d1⟩ ⟨d2, d3⟩
          obtain ⟨x, hy⟩ : ∃ z_ : Int, E * V - N * U = z_ := ⟨_, rfl⟩
          rw [hy] at hx hc
          clear hy
          have HL := Lib.hid hl
          clear hl
          have HH := Lib.hid hh
          clear hh
          have HE := Lib.hid he
          clear he
          have HN := Lib.hid hn
          clear hn
          have E2 := Lib.hid e2
          clear e2
          have N2 := Lib.hid n2
          clear n2
          have R2 := Lib.hid r2
          clear r2
          have R3 := Lib.hid r3
          clear r3
          have R4 := Lib.hid r4
          clear r4
          have E4 := Lib.hid e4
          clear e4
          have N4 := Lib.hid n4
          clear n4
          have HX := Lib.hid hx
          clear hx
          have hB0 := hB0
          go_wp2_with fail
          refine (iLn_is _ HL.out HH.out HE.out HN.out).mono ?_; rintro e' w1 ⟨rfl, hw1⟩
          have hB1 := bel_next hB0 hw1
          have hA2 := blk_new w1 (.cells #[.int .i64 E, .int .i64 N] 30)
          have hB2 := hB1.alloc hB1.size (.cells #[.int .i64 E, .int .i64 N] 30)
          go_wp2_with fail
          refine (sLn_is _ HL.out HH.out HE.out HN.out).mono ?_; rintro e' w3 ⟨rfl, hw3⟩
          have hA3 := blk_next hA2 hw3
          have hB3 := bel_next hB2 hw3
          have hD4 := blk_new w3 (.cells #[.int .i64 E, .int .i64 N] 30)
          have hA4 := blk_old hA3 (.cells #[.int .i64 E, .int .i64 N] 30)
          have hB4 := hB3.alloc hB3.size (.cells #[.int .i64 E, .int .i64 N] 30)
          obtain ⟨cA4_0, cA4_1, fA4_0, fA4_1, zA4⟩ := blk2 hA4
          obtain ⟨cD4_0, cD4_1, fD4_0, fD4_1, zD4⟩ := blk2 hD4
          go_wp2_with fail
          refine (iLn_is _ HL.out R2.out E2.out N2.out).mono ?_; rintro e' w5 ⟨rfl, hw5⟩
          have hA5 := blk_next hA4 hw5
          have hD5 := blk_next hD4 hw5
          have hB5 := bel_next hB4 hw5
          have hC6 := blk_new w5 (.cells #[.int .i64 (-E), .int .i64 (-N)] 30)
          have hA6 := blk_old hA5 (.cells #[.int .i64 (-E), .int .i64 (-N)] 30)
          have hB6 := hB5.alloc hB5.size (.cells #[.int .i64 (-E), .int .i64 (-N)] 30)
          go_wp2_with fail
          refine (iLn_f _ _ _ R3.out).mono ?_; rintro e' w7 ⟨rfl, hw7⟩
          have hA7 := blk_next hA6 hw7
          have hC7 := blk_next hC6 hw7
          have hB7 := bel_next hB6 hw7
          have hM8 := blk_new w7 (.cells #[.int .i64 0, .int .i64 0] 30)
          have hA8 := blk_old hA7 (.cells #[.int .i64 0, .int .i64 0] 30)
          have hC8 := blk_old hC7 (.cells #[.int .i64 0, .int .i64 0] 30)
          have hB8 := hB7.alloc hB7.size (.cells #[.int .i64 0, .int .i64 0] 30)
          go_wp2_with fail
          refine (iLn_is _ HL.out R4.out E4.out N4.out).mono ?_; rintro e' w9 ⟨rfl, hw9⟩
          have hA9 := blk_next hA8 hw9
          have hC9 := blk_next hC8 hw9
          have hM9 := blk_next hM8 hw9
          have hB9 := bel_next hB8 hw9
          have hX10 := blk_new w9 (.cells #[.int .i64 U, .int .i64 V] 30)
          have hA10 := blk_old hA9 (.cells #[.int .i64 U, .int .i64 V] 30)
          have hC10 := blk_old hC9 (.cells #[.int .i64 U, .int .i64 V] 30)
          have hM10 := blk_old hM9 (.cells #[.int .i64 U, .int .i64 V] 30)
          have hB10 := hB9.alloc hB9.size (.cells #[.int .i64 U, .int .i64 V] 30)
          obtain ⟨cA10_0, cA10_1, fA10_0, fA10_1, zA10⟩ := blk2 hA10
          obtain ⟨cC10_0, cC10_1, fC10_0, fC10_1, zC10⟩ := blk2 hC10
          obtain ⟨cM10_0, cM10_1, fM10_0, fM10_1, zM10⟩ := blk2 hM10
          obtain ⟨cX10_0, cX10_1, fX10_0, fX10_1, zX10⟩ := blk2 hX10
          go_wp2_with fail
          refine (iCroH_is _ HX.out).mono ?_; rintro e' w11 ⟨rfl, hw11⟩
          have hA11 := blk_next hA10 hw11
          have hC11 := blk_next hC10 hw11
          have hM11 := blk_next hM10 hw11
          have hX11 := blk_next hX10 hw11
          have hB11 := bel_next hB10 hw11
          go_wp2
          go_ret
          exact ⟨rfl, by first | exact hB11 | exact hB11.drew⟩
        · by_cases c2 : h < 0
          · obtain ⟨E, he⟩ : ∃ z_ : Int, lnE l h = z_ := ⟨_, rfl⟩
            obtain ⟨N, hn⟩ : ∃ z_ : Int, lnN h = z_ := ⟨_, rfl⟩
            obtain ⟨b0, b1, b2, b3⟩ := ln_bd l h
            rw [he] at b0 b1
            rw [hn] at b2 b3
            have e2 : lnE l (h + 12) = -E := by rw [lnE_half l h, he]
            have n2 : lnN (h + 12) = -N := by rw [lnN_half h, hn]
            have r2 : hrB (h + 12) = true := hrB_iff.2 (by omega)
            have e3 : lnE l (-h) = -E := by rw [lnE_neg, he]
            have n3 : lnN (-h) = N := by rw [lnN_neg, hn]
            have r3 : hrB (-h) = true := hrB_iff.2 (by omega)
            obtain ⟨U, e4⟩ : ∃ z_ : Int, lnE l (h + 1) = z_ := ⟨_, rfl⟩
            obtain ⟨V, n4⟩ : ∃ z_ : Int, lnN (h + 1) = z_ := ⟨_, rfl⟩
            obtain ⟨d0, d1, d2, d3⟩ := ln_bd l (h + 1)
            rw [e4] at d0 d1
            rw [n4] at d2 d3
            have r4 : hrB (h + 1) = true := hrB_iff.2 (by omega)
            have hc := lines_follow (l := l) (h := h) (laB_iff.1 hl).1 (laB_iff.1 hl).2 g0 g1
            rw [he, hn, e4, n4] at hc
            have hx : crossW E N U V = E * V - N * U := crossW_in ⟨b0, b1⟩ ⟨b2, b3⟩ ⟨d0, d1⟩ ⟨d2, d3⟩
            obtain ⟨x, hy⟩ : ∃ z_ : Int, E * V - N * U = z_ := ⟨_, rfl⟩
            rw [hy] at hx hc
            clear hy
            have HL := Lib.hid hl
            clear hl
            have HH := Lib.hid hh
            clear hh
            have HE := Lib.hid he
            clear he
            have HN := Lib.hid hn
            clear hn
            have E2 := Lib.hid e2
            clear e2
            have N2 := Lib.hid n2
            clear n2
            have R2 := Lib.hid r2
            clear r2
            have R3 := Lib.hid r3
            clear r3
            have R4 := Lib.hid r4
            clear r4
            have E3 := Lib.hid e3
            clear e3
            have N3 := Lib.hid n3
            clear n3
            have E4 := Lib.hid e4
            clear e4
            have N4 := Lib.hid n4
            clear n4
            have HX := Lib.hid hx
            clear hx
            have hB0 := hB0
            go_wp2_with fail
            refine (iLn_is _ HL.out HH.out HE.out HN.out).mono ?_; rintro e' w1 ⟨rfl, hw1⟩
            have hB1 := bel_next hB0 hw1
            have hA2 := blk_new w1 (.cells #[.int .i64 E, .int .i64 N] 30)
            have hB2 := hB1.alloc hB1.size (.cells #[.int .i64 E, .int .i64 N] 30)
            go_wp2_with fail
            refine (sLn_is _ HL.out HH.out HE.out HN.out).mono ?_; rintro e' w3 ⟨rfl, hw3⟩
            have hA3 := blk_next hA2 hw3
            have hB3 := bel_next hB2 hw3
            have hD4 := blk_new w3 (.cells #[.int .i64 E, .int .i64 N] 30)
            have hA4 := blk_old hA3 (.cells #[.int .i64 E, .int .i64 N] 30)
            have hB4 := hB3.alloc hB3.size (.cells #[.int .i64 E, .int .i64 N] 30)
            obtain ⟨cA4_0, cA4_1, fA4_0, fA4_1, zA4⟩ := blk2 hA4
            obtain ⟨cD4_0, cD4_1, fD4_0, fD4_1, zD4⟩ := blk2 hD4
            go_wp2_with fail
            refine (iLn_is _ HL.out R2.out E2.out N2.out).mono ?_; rintro e' w5 ⟨rfl, hw5⟩
            have hA5 := blk_next hA4 hw5
            have hD5 := blk_next hD4 hw5
            have hB5 := bel_next hB4 hw5
            have hC6 := blk_new w5 (.cells #[.int .i64 (-E), .int .i64 (-N)] 30)
            have hA6 := blk_old hA5 (.cells #[.int .i64 (-E), .int .i64 (-N)] 30)
            have hB6 := hB5.alloc hB5.size (.cells #[.int .i64 (-E), .int .i64 (-N)] 30)
            go_wp2_with fail
            refine (iLn_is _ HL.out R3.out E3.out N3.out).mono ?_; rintro e' w7 ⟨rfl, hw7⟩
            have hA7 := blk_next hA6 hw7
            have hC7 := blk_next hC6 hw7
            have hB7 := bel_next hB6 hw7
            have hM8 := blk_new w7 (.cells #[.int .i64 (-E), .int .i64 N] 30)
            have hA8 := blk_old hA7 (.cells #[.int .i64 (-E), .int .i64 N] 30)
            have hC8 := blk_old hC7 (.cells #[.int .i64 (-E), .int .i64 N] 30)
            have hB8 := hB7.alloc hB7.size (.cells #[.int .i64 (-E), .int .i64 N] 30)
            go_wp2_with fail
            refine (iLn_is _ HL.out R4.out E4.out N4.out).mono ?_; rintro e' w9 ⟨rfl, hw9⟩
            have hA9 := blk_next hA8 hw9
            have hC9 := blk_next hC8 hw9
            have hM9 := blk_next hM8 hw9
            have hB9 := bel_next hB8 hw9
            have hX10 := blk_new w9 (.cells #[.int .i64 U, .int .i64 V] 30)
            have hA10 := blk_old hA9 (.cells #[.int .i64 U, .int .i64 V] 30)
            have hC10 := blk_old hC9 (.cells #[.int .i64 U, .int .i64 V] 30)
            have hM10 := blk_old hM9 (.cells #[.int .i64 U, .int .i64 V] 30)
            have hB10 := hB9.alloc hB9.size (.cells #[.int .i64 U, .int .i64 V] 30)
            obtain ⟨cA10_0, cA10_1, fA10_0, fA10_1, zA10⟩ := blk2 hA10
            obtain ⟨cC10_0, cC10_1, fC10_0, fC10_1, zC10⟩ := blk2 hC10
            obtain ⟨cM10_0, cM10_1, fM10_0, fM10_1, zM10⟩ := blk2 hM10
            obtain ⟨cX10_0, cX10_1, fX10_0, fX10_1, zX10⟩ := blk2 hX10
            go_wp2_with fail
            refine (iCroH_is _ HX.out).mono ?_; rintro e' w11 ⟨rfl, hw11⟩
            have hA11 := blk_next hA10 hw11
            have hC11 := blk_next hC10 hw11
            have hM11 := blk_next hM10 hw11
            have hX11 := blk_next hX10 hw11
            have hB11 := bel_next hB10 hw11
            go_wp2
            go_ret
            exact ⟨rfl, by first | exact hB11 | exact hB11.drew⟩
          · by_cases c3 : 11 ≤ h
            · obtain ⟨E, he⟩ : ∃ z_ : Int, lnE l h = z_ := ⟨_, rfl⟩
              obtain ⟨N, hn⟩ : ∃ z_ : Int, lnN h = z_ := ⟨_, rfl⟩
              obtain ⟨b0, b1, b2, b3⟩ := ln_bd l h
              rw [he] at b0 b1
              rw [hn] at b2 b3
              have e2 : lnE l (h - 12) = -E := by rw [lnE_half' l h, he]
              have n2 : lnN (h - 12) = -N := by rw [lnN_half' h, hn]
              have r2 : hrB (h - 12) = true := hrB_iff.2 (by omega)
              have e3 : lnE l (-h) = -E := by rw [lnE_neg, he]
              have n3 : lnN (-h) = N := by rw [lnN_neg, hn]
              have r3 : hrB (-h) = true := hrB_iff.2 (by omega)
              have r4 : laB l = false ∨ (laB l = true ∧ hrB (h + 1) = false) := .inr ⟨hl, by unfold hrB; exact decide_eq_false (by omega)⟩
              have HL := Lib.hid hl
              clear hl
              have HH := Lib.hid hh
              clear hh
              have HE := Lib.hid he
              clear he
              have HN := Lib.hid hn
              clear hn
              have E2 := Lib.hid e2
              clear e2
              have N2 := Lib.hid n2
              clear n2
              have R2 := Lib.hid r2
              clear r2
              have R3 := Lib.hid r3
              clear r3
              have R4 := Lib.hid r4
              clear r4
              have E3 := Lib.hid e3
              clear e3
              have N3 := Lib.hid n3
              clear n3
              have hB0 := hB0
              go_wp2_with fail
              refine (iLn_is _ HL.out HH.out HE.out HN.out).mono ?_; rintro e' w1 ⟨rfl, hw1⟩
              have hB1 := bel_next hB0 hw1
              have hA2 := blk_new w1 (.cells #[.int .i64 E, .int .i64 N] 30)
              have hB2 := hB1.alloc hB1.size (.cells #[.int .i64 E, .int .i64 N] 30)
              go_wp2_with fail
              refine (sLn_is _ HL.out HH.out HE.out HN.out).mono ?_; rintro e' w3 ⟨rfl, hw3⟩
              have hA3 := blk_next hA2 hw3
              have hB3 := bel_next hB2 hw3
              have hD4 := blk_new w3 (.cells #[.int .i64 E, .int .i64 N] 30)
              have hA4 := blk_old hA3 (.cells #[.int .i64 E, .int .i64 N] 30)
              have hB4 := hB3.alloc hB3.size (.cells #[.int .i64 E, .int .i64 N] 30)
              obtain ⟨cA4_0, cA4_1, fA4_0, fA4_1, zA4⟩ := blk2 hA4
              obtain ⟨cD4_0, cD4_1, fD4_0, fD4_1, zD4⟩ := blk2 hD4
              go_wp2_with fail
              refine (iLn_is _ HL.out R2.out E2.out N2.out).mono ?_; rintro e' w5 ⟨rfl, hw5⟩
              have hA5 := blk_next hA4 hw5
              have hD5 := blk_next hD4 hw5
              have hB5 := bel_next hB4 hw5
              have hC6 := blk_new w5 (.cells #[.int .i64 (-E), .int .i64 (-N)] 30)
              have hA6 := blk_old hA5 (.cells #[.int .i64 (-E), .int .i64 (-N)] 30)
              have hB6 := hB5.alloc hB5.size (.cells #[.int .i64 (-E), .int .i64 (-N)] 30)
              go_wp2_with fail
              refine (iLn_is _ HL.out R3.out E3.out N3.out).mono ?_; rintro e' w7 ⟨rfl, hw7⟩
              have hA7 := blk_next hA6 hw7
              have hC7 := blk_next hC6 hw7
              have hB7 := bel_next hB6 hw7
              have hM8 := blk_new w7 (.cells #[.int .i64 (-E), .int .i64 N] 30)
              have hA8 := blk_old hA7 (.cells #[.int .i64 (-E), .int .i64 N] 30)
              have hC8 := blk_old hC7 (.cells #[.int .i64 (-E), .int .i64 N] 30)
              have hB8 := hB7.alloc hB7.size (.cells #[.int .i64 (-E), .int .i64 N] 30)
              go_wp2_with fail
              refine (iLn_f _ _ _ R4.out).mono ?_; rintro e' w9 ⟨rfl, hw9⟩
              have hA9 := blk_next hA8 hw9
              have hC9 := blk_next hC8 hw9
              have hM9 := blk_next hM8 hw9
              have hB9 := bel_next hB8 hw9
              have hX10 := blk_new w9 (.cells #[.int .i64 0, .int .i64 0] 30)
              have hA10 := blk_old hA9 (.cells #[.int .i64 0, .int .i64 0] 30)
              have hC10 := blk_old hC9 (.cells #[.int .i64 0, .int .i64 0] 30)
              have hM10 := blk_old hM9 (.cells #[.int .i64 0, .int .i64 0] 30)
              have hB10 := hB9.alloc hB9.size (.cells #[.int .i64 0, .int .i64 0] 30)
              obtain ⟨cA10_0, cA10_1, fA10_0, fA10_1, zA10⟩ := blk2 hA10
              obtain ⟨cC10_0, cC10_1, fC10_0, fC10_1, zC10⟩ := blk2 hC10
              obtain ⟨cM10_0, cM10_1, fM10_0, fM10_1, zM10⟩ := blk2 hM10
              obtain ⟨cX10_0, cX10_1, fX10_0, fX10_1, zX10⟩ := blk2 hX10
              go_wp2
              go_ret
              exact ⟨rfl, by first | exact hB10 | exact hB10.drew⟩
            · obtain ⟨E, he⟩ : ∃ z_ : Int, lnE l h = z_ := ⟨_, rfl⟩
              obtain ⟨N, hn⟩ : ∃ z_ : Int, lnN h = z_ := ⟨_, rfl⟩
              obtain ⟨b0, b1, b2, b3⟩ := ln_bd l h
              rw [he] at b0 b1
              rw [hn] at b2 b3
              have e2 : lnE l (h - 12) = -E := by rw [lnE_half' l h, he]
              have n2 : lnN (h - 12) = -N := by rw [lnN_half' h, hn]
              have r2 : hrB (h - 12) = true := hrB_iff.2 (by omega)
              have e3 : lnE l (-h) = -E := by rw [lnE_neg, he]
              have n3 : lnN (-h) = N := by rw [lnN_neg, hn]
              have r3 : hrB (-h) = true := hrB_iff.2 (by omega)
              obtain ⟨U, e4⟩ : ∃ z_ : Int, lnE l (h + 1) = z_ := ⟨_, rfl⟩
              obtain ⟨V, n4⟩ : ∃ z_ : Int, lnN (h + 1) = z_ := ⟨_, rfl⟩
              obtain ⟨d0, d1, d2, d3⟩ := ln_bd l (h + 1)
              rw [e4] at d0 d1
              rw [n4] at d2 d3
              have r4 : hrB (h + 1) = true := hrB_iff.2 (by omega)
              have hc := lines_follow (l := l) (h := h) (laB_iff.1 hl).1 (laB_iff.1 hl).2 g0 g1
              rw [he, hn, e4, n4] at hc
              have hx : crossW E N U V = E * V - N * U := crossW_in ⟨b0, b1⟩ ⟨b2, b3⟩ ⟨d0, d1⟩ ⟨d2, d3⟩
              obtain ⟨x, hy⟩ : ∃ z_ : Int, E * V - N * U = z_ := ⟨_, rfl⟩
              rw [hy] at hx hc
              clear hy
              have HL := Lib.hid hl
              clear hl
              have HH := Lib.hid hh
              clear hh
              have HE := Lib.hid he
              clear he
              have HN := Lib.hid hn
              clear hn
              have E2 := Lib.hid e2
              clear e2
              have N2 := Lib.hid n2
              clear n2
              have R2 := Lib.hid r2
              clear r2
              have R3 := Lib.hid r3
              clear r3
              have R4 := Lib.hid r4
              clear r4
              have E3 := Lib.hid e3
              clear e3
              have N3 := Lib.hid n3
              clear n3
              have E4 := Lib.hid e4
              clear e4
              have N4 := Lib.hid n4
              clear n4
              have HX := Lib.hid hx
              clear hx
              have hB0 := hB0
              go_wp2_with fail
              refine (iLn_is _ HL.out HH.out HE.out HN.out).mono ?_; rintro e' w1 ⟨rfl, hw1⟩
              have hB1 := bel_next hB0 hw1
              have hA2 := blk_new w1 (.cells #[.int .i64 E, .int .i64 N] 30)
              have hB2 := hB1.alloc hB1.size (.cells #[.int .i64 E, .int .i64 N] 30)
              go_wp2_with fail
              refine (sLn_is _ HL.out HH.out HE.out HN.out).mono ?_; rintro e' w3 ⟨rfl, hw3⟩
              have hA3 := blk_next hA2 hw3
              have hB3 := bel_next hB2 hw3
              have hD4 := blk_new w3 (.cells #[.int .i64 E, .int .i64 N] 30)
              have hA4 := blk_old hA3 (.cells #[.int .i64 E, .int .i64 N] 30)
              have hB4 := hB3.alloc hB3.size (.cells #[.int .i64 E, .int .i64 N] 30)
              obtain ⟨cA4_0, cA4_1, fA4_0, fA4_1, zA4⟩ := blk2 hA4
              obtain ⟨cD4_0, cD4_1, fD4_0, fD4_1, zD4⟩ := blk2 hD4
              go_wp2_with fail
              refine (iLn_is _ HL.out R2.out E2.out N2.out).mono ?_; rintro e' w5 ⟨rfl, hw5⟩
              have hA5 := blk_next hA4 hw5
              have hD5 := blk_next hD4 hw5
              have hB5 := bel_next hB4 hw5
              have hC6 := blk_new w5 (.cells #[.int .i64 (-E), .int .i64 (-N)] 30)
              have hA6 := blk_old hA5 (.cells #[.int .i64 (-E), .int .i64 (-N)] 30)
              have hB6 := hB5.alloc hB5.size (.cells #[.int .i64 (-E), .int .i64 (-N)] 30)
              go_wp2_with fail
              refine (iLn_is _ HL.out R3.out E3.out N3.out).mono ?_; rintro e' w7 ⟨rfl, hw7⟩
              have hA7 := blk_next hA6 hw7
              have hC7 := blk_next hC6 hw7
              have hB7 := bel_next hB6 hw7
              have hM8 := blk_new w7 (.cells #[.int .i64 (-E), .int .i64 N] 30)
              have hA8 := blk_old hA7 (.cells #[.int .i64 (-E), .int .i64 N] 30)
              have hC8 := blk_old hC7 (.cells #[.int .i64 (-E), .int .i64 N] 30)
              have hB8 := hB7.alloc hB7.size (.cells #[.int .i64 (-E), .int .i64 N] 30)
              go_wp2_with fail
              refine (iLn_is _ HL.out R4.out E4.out N4.out).mono ?_; rintro e' w9 ⟨rfl, hw9⟩
              have hA9 := blk_next hA8 hw9
              have hC9 := blk_next hC8 hw9
              have hM9 := blk_next hM8 hw9
              have hB9 := bel_next hB8 hw9
              have hX10 := blk_new w9 (.cells #[.int .i64 U, .int .i64 V] 30)
              have hA10 := blk_old hA9 (.cells #[.int .i64 U, .int .i64 V] 30)
              have hC10 := blk_old hC9 (.cells #[.int .i64 U, .int .i64 V] 30)
              have hM10 := blk_old hM9 (.cells #[.int .i64 U, .int .i64 V] 30)
              have hB10 := hB9.alloc hB9.size (.cells #[.int .i64 U, .int .i64 V] 30)
              obtain ⟨cA10_0, cA10_1, fA10_0, fA10_1, zA10⟩ := blk2 hA10
              obtain ⟨cC10_0, cC10_1, fC10_0, fC10_1, zC10⟩ := blk2 hC10
              obtain ⟨cM10_0, cM10_1, fM10_0, fM10_1, zM10⟩ := blk2 hM10
              obtain ⟨cX10_0, cX10_1, fX10_0, fX10_1, zX10⟩ := blk2 hX10
              go_wp2_with fail
              refine (iCroH_is _ HX.out).mono ?_; rintro e' w11 ⟨rfl, hw11⟩
              have hA11 := blk_next hA10 hw11
              have hC11 := blk_next hC10 hw11
              have hM11 := blk_next hM10 hw11
              have hX11 := blk_next hX10 hw11
              have hB11 := bel_next hB10 hw11
              go_wp2
              go_ret
              exact ⟨rfl, by first | exact hB11 | exact hB11.drew⟩

set_option maxRecDepth 100000 in
theorem lifted (os : Os) (started : os.Started) (H : Type) (enc : TypeId × Value → H) :
    ReturnsInHanded {} Try.checked os 4 .any (Rows.fnLineOfSpec.pre6 enc Try.prog Try.f4 Rows.fnLineOfRow.domain false) (Rows.fnLineOfSpec.post enc Try.prog Try.f4 false true false false) := by
  refine returnsInHanded_of_change (C := Try.checked) own started (by kernel_rfl) Try.func4
    (ChangeSpec.witness6 (enc := enc) (C := Try.checked) false ⟨#[], #[.slice none 0 0], []⟩ 8 (by kernel_rfl) (by kernel_rfl) (by kernel_rfl) (by kernel_rfl)) ?_
  intro W base args ds gs before hval0 hW hcnd _
  have hval : ∀ (j : Nat) t v, Try.f4.params[j]? = some t → args[j]? = some v → Value.okWide Try.prog W .any base t v := hval0
  have hW' := hW
  obtain ⟨p, q, hA0, hV, rfl, hfz, hnd⟩ := hW
  have hA : DataW.TrodAll enc Try.prog W 0 (fun _ => true) true Try.f4.params.toList args.toList ds p := hA0
  rw [Try.params4] at hA hval
  obtain ⟨v0, vs0, d0, ds0, p0, q0, hargs, rfl, rfl, h0, r0⟩ := trodAll_cons hA
  obtain ⟨rfl, rfl, rfl⟩ := trodAll_nil r0
  obtain rfl : args = #[v0] := by cases args; simp_all
  obtain ⟨rfl, rfl⟩ := trodVars_none hV
  have k0 := h0
  have lt0 : ∀ x ∈ p0, x.block < W.heap.size := by obtain ⟨m, hm⟩ := k0; exact DataW.trod_lt m _ _ _ hm
  obtain ⟨a0, len0, cap0, rfl⟩ := okWide_slice Try.underlying22 (hval 0 22 v0 rfl rfl)
  have w0 : CodeOk W a0 len0 cap0 := by
    obtain ⟨fuel, hf⟩ := h0
    rcases open_ints Try.underlying22 Try.underlying5 (by kernel_rfl) hf with ⟨hcs, _⟩ | ⟨x, l, c, zs, hcs, _, hl, hm, hz, _, hcell, hwz⟩
    · simp [Value.cells] at hcs
      obtain ⟨rfl, rfl, rfl⟩ := hcs
      exact code_nil W
    · simp [Value.cells] at hcs
      obtain ⟨rfl, rfl, rfl⟩ := hcs
      exact code_ok hl hm (by simp at hz; omega) hcell hwz
  clear hA0 hval0
  refine (walk W a0 len0 cap0 w0).mono fun e W' ⟨he, bel⟩ => ?_
  subst he
  exact ⟨_, rfl, _, _, _, [], _, [], hW', trodAll_mk1 (shut_bool Try.underlying4 _), (trodAll_cons_mk (Below.trod laidOut (by kernel_rfl) (of_decide_eq_true (by kernel_rfl)) k0 bel lt0) trodAll_mk0), rfl, bel.frame _, fun h => by cases h⟩

theorem over : Rows.fnLineOfRow.holds Try.pinned (OpenSpec.ofChange Rows.fnLineOfSpec) :=
  OpenClaim.holds_of_wide 4 Try.f4 rfl rfl rfl rfl rfl rfl rfl ⟨rfl, rfl, rfl, rfl, rfl⟩ rfl rfl rfl rfl rfl (by kernel_rfl) Try.func4 (by kernel_rfl)
    (of_decide_eq_true (by kernel_rfl)) (by unfold Func.isWrapper; first | (rw [if_pos (by decide +kernel)]; kernel_rfl) | (rw [if_neg (by decide +kernel)]; exact ⟨rfl, rfl⟩))
    (fun os started H enc _ => lifted os started H enc)

/-- The statement. -/
theorem proved : Rows.FnLineOfSaid :=
  over
#print axioms proved
end Go.Proofs.Ytgbelpkhfaajoab.fnLineOf
