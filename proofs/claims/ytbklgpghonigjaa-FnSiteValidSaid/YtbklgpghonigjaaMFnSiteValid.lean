/- FnSiteValid: whatever the input, the law returns true, and its arguments read as they did. No conditions beyond those of the statement's row. -/
import Derived.Laws.Rows
import Derived.Test.YtbklgpghonigjaaMEd
import Derived.Test.YtbklgpghonigjaaMEo
import Derived.Test.YtbklgpghonigjaaMQH
import Derived.Test.YtbklgpghonigjaaMQN
namespace Go.Proofs.Ytbklgpghonigjaa.fnSiteValid
open Go.Proofs.Ytbklgpghonigjaa
open Go Go.RowKit
open Go.ChangeShapes Go.WideShapes Go.ChangeAt Go.RowKit Go.Joins
set_option linter.unusedVariables false
set_option linter.unusedSimpArgs false
set_option linter.unnecessarySimpa false
theorem own : ownKnob Try.prog.godebug = none := by kernel_rfl
theorem laidOut : laidOutB Try.prog = true := by kernel_rfl
set_option maxRecDepth 100000 in
set_option maxHeartbeats 4000000 in
theorem walk (w : World) (a0 : Option Addr) (len0 cap0 : Nat) (w0 : CodeOk w a0 len0 cap0) :
    Calls Try.prog 3 #[.slice a0 len0 cap0] w fun e w' => e = .returned (.bool true) ∧ Below w.heap.size w w' := by
  by_cases hl : 1048576 < len0
  · have w0' := w0.2.1
    unfold maxLen at w0'
    clear w0
    go_enter Try.func3, Try.ntmps3
    go_wp2_with (first | (refine wpList_load_row rfl 33 _ rfl _ rfl _ _ (0, 0) _ (by assumption) Try.underlying33 rfl (by kernel_rfl) ?_) | (refine wpList_load_rowG (by rfl) 33 _ rfl _ rfl _ _ (0, 0) _ (by assumption) Try.underlying33 rfl (by kernel_rfl) ?_))
    go_ret
    exact ⟨rfl, Below.refl _ _⟩
  · have w0' := w0.2.1
    unfold maxLen at w0'
    have hle := w0.1
    have HW := Lib.hid w0
    clear w0
    go_enter Try.func3, Try.ntmps3
    go_wp2_with (first | (refine wpList_load_row rfl 33 _ rfl _ rfl _ _ (0, 0) _ (by assumption) Try.underlying33 rfl (by kernel_rfl) ?_) | (refine wpList_load_rowG (by rfl) 33 _ rfl _ rfl _ _ (0, 0) _ (by assumption) Try.underlying33 rfl (by kernel_rfl) ?_))
    refine (drSiteValid_any _ _ _ _ HW.out).mono ?_; rintro e w1 ⟨la, dy, mi, e1, n1, fe, fn, fu, ho, ha, ne, lo, hi, st, up, xs, A, cp, rfl, ⟨hh0, hh1⟩, hx6, hO0, hB0⟩
    obtain ⟨m, hm⟩ : ∃ m, xs.length = m := ⟨_, rfl⟩
    rw [hm] at hx6 ⊢
    have HM := Lib.hid hm
    clear hm
    obtain ⟨v, hv⟩ : ∃ v, siB la dy mi e1 n1 fe fn fu ho ha ne lo hi st xs = v := ⟨_, rfl⟩
    have HV := Lib.hid hv
    have HF := Lib.hid (siB_full la dy mi e1 n1 fe fn fu ho ha ne lo hi st xs)
    have hwb : IntKind.i64.wrap (ho + 1) = ho + 1 := IntWalk.i64_in _ (by omega)
    have hN0 : SRow encBlock w1 none [] := .inl rfl
    cases v
    · clear hv
      have hP1 : (w1.alloc (.cells #[.int .i64 la, .int .i64 dy, .int .i64 mi, .slice A m cp, .int .i64 e1, .int .i64 n1, .int .i64 fe, .int .i64 fn, .int .i64 fu, .int .i64 ho, .int .i64 ha, .int .i64 ne, .int .i64 lo, .int .i64 hi, .bool up, .int .i64 st] 33 (0, 0))).heap[w1.heap.size]? = some (.cells #[.int .i64 la, .int .i64 dy, .int .i64 mi, .slice A m cp, .int .i64 e1, .int .i64 n1, .int .i64 fe, .int .i64 fn, .int .i64 fu, .int .i64 ho, .int .i64 ha, .int .i64 ne, .int .i64 lo, .int .i64 hi, .bool up, .int .i64 st] 33 (0, 0)) := by have := blk_new (w1) (.cells #[.int .i64 la, .int .i64 dy, .int .i64 mi, .slice A m cp, .int .i64 e1, .int .i64 n1, .int .i64 fe, .int .i64 fn, .int .i64 fu, .int .i64 ho, .int .i64 ha, .int .i64 ne, .int .i64 lo, .int .i64 hi, .bool up, .int .i64 st] 33 (0, 0)); simpa using this
      have hB1 := hB0.alloc hB0.size (.cells #[.int .i64 la, .int .i64 dy, .int .i64 mi, .slice A m cp, .int .i64 e1, .int .i64 n1, .int .i64 fe, .int .i64 fn, .int .i64 fu, .int .i64 ho, .int .i64 ha, .int .i64 ne, .int .i64 lo, .int .i64 hi, .bool up, .int .i64 st] 33 (0, 0))
      have hO1 := hO0.next (bel1 _ (.cells #[.int .i64 la, .int .i64 dy, .int .i64 mi, .slice A m cp, .int .i64 e1, .int .i64 n1, .int .i64 fe, .int .i64 fn, .int .i64 fu, .int .i64 ho, .int .i64 ha, .int .i64 ne, .int .i64 lo, .int .i64 hi, .bool up, .int .i64 st] 33 (0, 0)))
      have zBP := hB0.size
      go_wp2_with (first | (refine wpList_load_row rfl 33 _ rfl _ rfl _ _ (0, 0) _ (by assumption) Try.underlying33 rfl (by kernel_rfl) ?_) | (refine wpList_load_rowG (by rfl) 33 _ rfl _ rfl _ _ (0, 0) _ (by assumption) Try.underlying33 rfl (by kernel_rfl) ?_))
      refine (iSV_is la dy mi e1 n1 fe fn fu ho ha ne lo hi st up A cp xs _ HM.out hO1.row (by omega) HV.out).mono ?_; rintro e' w2 ⟨rfl, hw2⟩
      have hP2 := blk_next hP1 hw2
      have hO2 := hO1.next hw2
      have hB2 := bel_next hB1 hw2
      go_wp2_with (first | (refine wpList_load_row rfl 33 _ rfl _ rfl _ _ (0, 0) _ (by assumption) Try.underlying33 rfl (by kernel_rfl) ?_) | (refine wpList_load_rowG (by rfl) 33 _ rfl _ rfl _ _ (0, 0) _ (by assumption) Try.underlying33 rfl (by kernel_rfl) ?_))
      refine (sSV10_is la dy mi e1 n1 fe fn fu ho ha ne lo hi st up A cp xs _ HM.out hO2.row (by omega) HV.out).mono ?_; rintro e' w3 ⟨rfl, hw3⟩
      have hP3 := blk_next hP2 hw3
      have hO3 := hO2.next hw3
      have hB3 := bel_next hB2 hw3
      obtain ⟨cP3_0, cP3_1, cP3_2, cP3_3, cP3_4, cP3_5, cP3_6, cP3_7, cP3_8, cP3_9, cP3_10, cP3_11, cP3_12, cP3_13, cP3_14, cP3_15, fP3_0, fP3_1, fP3_2, fP3_3, fP3_4, fP3_5, fP3_6, fP3_7, fP3_8, fP3_9, fP3_10, fP3_11, fP3_12, fP3_13, fP3_14, fP3_15, zP3⟩ := blk16 hP3
      have zPQ := blk_lt hP3
      have hQ4 : (w3.alloc (.cells #[.int .i64 la, .int .i64 dy, .int .i64 mi, .slice none 0 0, .int .i64 e1, .int .i64 n1, .int .i64 fe, .int .i64 fn, .int .i64 fu, .int .i64 ho, .int .i64 0, .int .i64 ne, .int .i64 lo, .int .i64 hi, .bool up, .int .i64 st] 33 (0, 0))).heap[w3.heap.size]? = some (.cells #[.int .i64 la, .int .i64 dy, .int .i64 mi, .slice none 0 0, .int .i64 e1, .int .i64 n1, .int .i64 fe, .int .i64 fn, .int .i64 fu, .int .i64 ho, .int .i64 0, .int .i64 ne, .int .i64 lo, .int .i64 hi, .bool up, .int .i64 st] 33 (0, 0)) := by have := blk_new (w3) (.cells #[.int .i64 la, .int .i64 dy, .int .i64 mi, .slice none 0 0, .int .i64 e1, .int .i64 n1, .int .i64 fe, .int .i64 fn, .int .i64 fu, .int .i64 ho, .int .i64 0, .int .i64 ne, .int .i64 lo, .int .i64 hi, .bool up, .int .i64 st] 33 (0, 0)); simpa using this
      have hP4 := blk_old hP3 (.cells #[.int .i64 la, .int .i64 dy, .int .i64 mi, .slice none 0 0, .int .i64 e1, .int .i64 n1, .int .i64 fe, .int .i64 fn, .int .i64 fu, .int .i64 ho, .int .i64 0, .int .i64 ne, .int .i64 lo, .int .i64 hi, .bool up, .int .i64 st] 33 (0, 0))
      have hB4 := hB3.alloc hB3.size (.cells #[.int .i64 la, .int .i64 dy, .int .i64 mi, .slice none 0 0, .int .i64 e1, .int .i64 n1, .int .i64 fe, .int .i64 fn, .int .i64 fu, .int .i64 ho, .int .i64 0, .int .i64 ne, .int .i64 lo, .int .i64 hi, .bool up, .int .i64 st] 33 (0, 0))
      have hO4 := hO3.next (bel1 _ (.cells #[.int .i64 la, .int .i64 dy, .int .i64 mi, .slice none 0 0, .int .i64 e1, .int .i64 n1, .int .i64 fe, .int .i64 fn, .int .i64 fu, .int .i64 ho, .int .i64 0, .int .i64 ne, .int .i64 lo, .int .i64 hi, .bool up, .int .i64 st] 33 (0, 0)))
      have zBQ := hB3.size
      have zPR := blk_lt hP4
      have zQR := blk_lt hQ4
      have hR5 : ((w3.alloc (.cells #[.int .i64 la, .int .i64 dy, .int .i64 mi, .slice none 0 0, .int .i64 e1, .int .i64 n1, .int .i64 fe, .int .i64 fn, .int .i64 fu, .int .i64 ho, .int .i64 0, .int .i64 ne, .int .i64 lo, .int .i64 hi, .bool up, .int .i64 st] 33 (0, 0))).alloc (.cells #[.int .i64 la, .int .i64 dy, .int .i64 mi, .slice A m cp, .int .i64 e1, .int .i64 n1, .int .i64 fe, .int .i64 fn, .int .i64 fu, .int .i64 ho, .int .i64 (ho + 1), .int .i64 ne, .int .i64 lo, .int .i64 hi, .bool up, .int .i64 st] 33 (0, 0))).heap[w3.heap.size + 1]? = some (.cells #[.int .i64 la, .int .i64 dy, .int .i64 mi, .slice A m cp, .int .i64 e1, .int .i64 n1, .int .i64 fe, .int .i64 fn, .int .i64 fu, .int .i64 ho, .int .i64 (ho + 1), .int .i64 ne, .int .i64 lo, .int .i64 hi, .bool up, .int .i64 st] 33 (0, 0)) := by have := blk_new ((w3.alloc (.cells #[.int .i64 la, .int .i64 dy, .int .i64 mi, .slice none 0 0, .int .i64 e1, .int .i64 n1, .int .i64 fe, .int .i64 fn, .int .i64 fu, .int .i64 ho, .int .i64 0, .int .i64 ne, .int .i64 lo, .int .i64 hi, .bool up, .int .i64 st] 33 (0, 0)))) (.cells #[.int .i64 la, .int .i64 dy, .int .i64 mi, .slice A m cp, .int .i64 e1, .int .i64 n1, .int .i64 fe, .int .i64 fn, .int .i64 fu, .int .i64 ho, .int .i64 (ho + 1), .int .i64 ne, .int .i64 lo, .int .i64 hi, .bool up, .int .i64 st] 33 (0, 0)); simpa using this
      have hP5 := blk_old hP4 (.cells #[.int .i64 la, .int .i64 dy, .int .i64 mi, .slice A m cp, .int .i64 e1, .int .i64 n1, .int .i64 fe, .int .i64 fn, .int .i64 fu, .int .i64 ho, .int .i64 (ho + 1), .int .i64 ne, .int .i64 lo, .int .i64 hi, .bool up, .int .i64 st] 33 (0, 0))
      have hQ5 := blk_old hQ4 (.cells #[.int .i64 la, .int .i64 dy, .int .i64 mi, .slice A m cp, .int .i64 e1, .int .i64 n1, .int .i64 fe, .int .i64 fn, .int .i64 fu, .int .i64 ho, .int .i64 (ho + 1), .int .i64 ne, .int .i64 lo, .int .i64 hi, .bool up, .int .i64 st] 33 (0, 0))
      have hB5 := hB4.alloc hB4.size (.cells #[.int .i64 la, .int .i64 dy, .int .i64 mi, .slice A m cp, .int .i64 e1, .int .i64 n1, .int .i64 fe, .int .i64 fn, .int .i64 fu, .int .i64 ho, .int .i64 (ho + 1), .int .i64 ne, .int .i64 lo, .int .i64 hi, .bool up, .int .i64 st] 33 (0, 0))
      have hO5 := hO4.next (bel1 _ (.cells #[.int .i64 la, .int .i64 dy, .int .i64 mi, .slice A m cp, .int .i64 e1, .int .i64 n1, .int .i64 fe, .int .i64 fn, .int .i64 fu, .int .i64 ho, .int .i64 (ho + 1), .int .i64 ne, .int .i64 lo, .int .i64 hi, .bool up, .int .i64 st] 33 (0, 0)))
      have zBR := hB4.size
      go_wp2_with (first | (refine wpList_load_row rfl 33 _ rfl _ rfl _ _ (0, 0) _ (by assumption) Try.underlying33 rfl (by kernel_rfl) ?_) | (refine wpList_load_rowG (by rfl) 33 _ rfl _ rfl _ _ (0, 0) _ (by assumption) Try.underlying33 rfl (by kernel_rfl) ?_))
      refine (iSV_is la dy mi e1 n1 fe fn fu ho (ho + 1) ne lo hi st up A cp xs _ HM.out hO5.row (by omega) HF.out).mono ?_; rintro e' w6 ⟨rfl, hw6⟩
      have hP6 := blk_next hP5 hw6
      have hQ6 := blk_next hQ5 hw6
      have hR6 := blk_next hR5 hw6
      have hO6 := hO5.next hw6
      have hB6 := bel_next hB5 hw6
      go_wp2_with (first | (refine wpList_load_row rfl 33 _ rfl _ rfl _ _ (0, 0) _ (by assumption) Try.underlying33 rfl (by kernel_rfl) ?_) | (refine wpList_load_rowG (by rfl) 33 _ rfl _ rfl _ _ (0, 0) _ (by assumption) Try.underlying33 rfl (by kernel_rfl) ?_))
      refine (alive_bel _).mono ?_; rintro e' w7 ⟨rfl, hw7⟩
      have hP7 := blk_next hP6 hw7
      have hQ7 := blk_next hQ6 hw7
      have hR7 := blk_next hR6 hw7
      have hO7 := hO6.next hw7
      have hB7 := bel_next hB6 hw7
      go_wp2_with (first | (refine wpList_load_row rfl 33 _ rfl _ rfl _ _ (0, 0) _ (by assumption) Try.underlying33 rfl (by kernel_rfl) ?_) | (refine wpList_load_rowG (by rfl) 33 _ rfl _ rfl _ _ (0, 0) _ (by assumption) Try.underlying33 rfl (by kernel_rfl) ?_))
      go_ret
      exact ⟨rfl, by first | exact hB7 | exact hB7.drew⟩
    · have HB := Lib.hid (siB_bare hv)
      clear hv
      have hP1 : (w1.alloc (.cells #[.int .i64 la, .int .i64 dy, .int .i64 mi, .slice A m cp, .int .i64 e1, .int .i64 n1, .int .i64 fe, .int .i64 fn, .int .i64 fu, .int .i64 ho, .int .i64 ha, .int .i64 ne, .int .i64 lo, .int .i64 hi, .bool up, .int .i64 st] 33 (0, 0))).heap[w1.heap.size]? = some (.cells #[.int .i64 la, .int .i64 dy, .int .i64 mi, .slice A m cp, .int .i64 e1, .int .i64 n1, .int .i64 fe, .int .i64 fn, .int .i64 fu, .int .i64 ho, .int .i64 ha, .int .i64 ne, .int .i64 lo, .int .i64 hi, .bool up, .int .i64 st] 33 (0, 0)) := by have := blk_new (w1) (.cells #[.int .i64 la, .int .i64 dy, .int .i64 mi, .slice A m cp, .int .i64 e1, .int .i64 n1, .int .i64 fe, .int .i64 fn, .int .i64 fu, .int .i64 ho, .int .i64 ha, .int .i64 ne, .int .i64 lo, .int .i64 hi, .bool up, .int .i64 st] 33 (0, 0)); simpa using this
      have hB1 := hB0.alloc hB0.size (.cells #[.int .i64 la, .int .i64 dy, .int .i64 mi, .slice A m cp, .int .i64 e1, .int .i64 n1, .int .i64 fe, .int .i64 fn, .int .i64 fu, .int .i64 ho, .int .i64 ha, .int .i64 ne, .int .i64 lo, .int .i64 hi, .bool up, .int .i64 st] 33 (0, 0))
      have hO1 := hO0.next (bel1 _ (.cells #[.int .i64 la, .int .i64 dy, .int .i64 mi, .slice A m cp, .int .i64 e1, .int .i64 n1, .int .i64 fe, .int .i64 fn, .int .i64 fu, .int .i64 ho, .int .i64 ha, .int .i64 ne, .int .i64 lo, .int .i64 hi, .bool up, .int .i64 st] 33 (0, 0)))
      have zBP := hB0.size
      go_wp2_with (first | (refine wpList_load_row rfl 33 _ rfl _ rfl _ _ (0, 0) _ (by assumption) Try.underlying33 rfl (by kernel_rfl) ?_) | (refine wpList_load_rowG (by rfl) 33 _ rfl _ rfl _ _ (0, 0) _ (by assumption) Try.underlying33 rfl (by kernel_rfl) ?_))
      refine (iSV_is la dy mi e1 n1 fe fn fu ho ha ne lo hi st up A cp xs _ HM.out hO1.row (by omega) HV.out).mono ?_; rintro e' w2 ⟨rfl, hw2⟩
      have hP2 := blk_next hP1 hw2
      have hO2 := hO1.next hw2
      have hB2 := bel_next hB1 hw2
      go_wp2_with (first | (refine wpList_load_row rfl 33 _ rfl _ rfl _ _ (0, 0) _ (by assumption) Try.underlying33 rfl (by kernel_rfl) ?_) | (refine wpList_load_rowG (by rfl) 33 _ rfl _ rfl _ _ (0, 0) _ (by assumption) Try.underlying33 rfl (by kernel_rfl) ?_))
      refine (sSV10_is la dy mi e1 n1 fe fn fu ho ha ne lo hi st up A cp xs _ HM.out hO2.row (by omega) HV.out).mono ?_; rintro e' w3 ⟨rfl, hw3⟩
      have hP3 := blk_next hP2 hw3
      have hO3 := hO2.next hw3
      have hB3 := bel_next hB2 hw3
      obtain ⟨cP3_0, cP3_1, cP3_2, cP3_3, cP3_4, cP3_5, cP3_6, cP3_7, cP3_8, cP3_9, cP3_10, cP3_11, cP3_12, cP3_13, cP3_14, cP3_15, fP3_0, fP3_1, fP3_2, fP3_3, fP3_4, fP3_5, fP3_6, fP3_7, fP3_8, fP3_9, fP3_10, fP3_11, fP3_12, fP3_13, fP3_14, fP3_15, zP3⟩ := blk16 hP3
      have zPQ := blk_lt hP3
      have hQ4 : (w3.alloc (.cells #[.int .i64 la, .int .i64 dy, .int .i64 mi, .slice none 0 0, .int .i64 e1, .int .i64 n1, .int .i64 fe, .int .i64 fn, .int .i64 fu, .int .i64 ho, .int .i64 0, .int .i64 ne, .int .i64 lo, .int .i64 hi, .bool up, .int .i64 st] 33 (0, 0))).heap[w3.heap.size]? = some (.cells #[.int .i64 la, .int .i64 dy, .int .i64 mi, .slice none 0 0, .int .i64 e1, .int .i64 n1, .int .i64 fe, .int .i64 fn, .int .i64 fu, .int .i64 ho, .int .i64 0, .int .i64 ne, .int .i64 lo, .int .i64 hi, .bool up, .int .i64 st] 33 (0, 0)) := by have := blk_new (w3) (.cells #[.int .i64 la, .int .i64 dy, .int .i64 mi, .slice none 0 0, .int .i64 e1, .int .i64 n1, .int .i64 fe, .int .i64 fn, .int .i64 fu, .int .i64 ho, .int .i64 0, .int .i64 ne, .int .i64 lo, .int .i64 hi, .bool up, .int .i64 st] 33 (0, 0)); simpa using this
      have hP4 := blk_old hP3 (.cells #[.int .i64 la, .int .i64 dy, .int .i64 mi, .slice none 0 0, .int .i64 e1, .int .i64 n1, .int .i64 fe, .int .i64 fn, .int .i64 fu, .int .i64 ho, .int .i64 0, .int .i64 ne, .int .i64 lo, .int .i64 hi, .bool up, .int .i64 st] 33 (0, 0))
      have hB4 := hB3.alloc hB3.size (.cells #[.int .i64 la, .int .i64 dy, .int .i64 mi, .slice none 0 0, .int .i64 e1, .int .i64 n1, .int .i64 fe, .int .i64 fn, .int .i64 fu, .int .i64 ho, .int .i64 0, .int .i64 ne, .int .i64 lo, .int .i64 hi, .bool up, .int .i64 st] 33 (0, 0))
      have hO4 := hO3.next (bel1 _ (.cells #[.int .i64 la, .int .i64 dy, .int .i64 mi, .slice none 0 0, .int .i64 e1, .int .i64 n1, .int .i64 fe, .int .i64 fn, .int .i64 fu, .int .i64 ho, .int .i64 0, .int .i64 ne, .int .i64 lo, .int .i64 hi, .bool up, .int .i64 st] 33 (0, 0)))
      have zBQ := hB3.size
      have zPR := blk_lt hP4
      have zQR := blk_lt hQ4
      have hR5 : ((w3.alloc (.cells #[.int .i64 la, .int .i64 dy, .int .i64 mi, .slice none 0 0, .int .i64 e1, .int .i64 n1, .int .i64 fe, .int .i64 fn, .int .i64 fu, .int .i64 ho, .int .i64 0, .int .i64 ne, .int .i64 lo, .int .i64 hi, .bool up, .int .i64 st] 33 (0, 0))).alloc (.cells #[.int .i64 la, .int .i64 dy, .int .i64 mi, .slice A m cp, .int .i64 e1, .int .i64 n1, .int .i64 fe, .int .i64 fn, .int .i64 fu, .int .i64 ho, .int .i64 (ho + 1), .int .i64 ne, .int .i64 lo, .int .i64 hi, .bool up, .int .i64 st] 33 (0, 0))).heap[w3.heap.size + 1]? = some (.cells #[.int .i64 la, .int .i64 dy, .int .i64 mi, .slice A m cp, .int .i64 e1, .int .i64 n1, .int .i64 fe, .int .i64 fn, .int .i64 fu, .int .i64 ho, .int .i64 (ho + 1), .int .i64 ne, .int .i64 lo, .int .i64 hi, .bool up, .int .i64 st] 33 (0, 0)) := by have := blk_new ((w3.alloc (.cells #[.int .i64 la, .int .i64 dy, .int .i64 mi, .slice none 0 0, .int .i64 e1, .int .i64 n1, .int .i64 fe, .int .i64 fn, .int .i64 fu, .int .i64 ho, .int .i64 0, .int .i64 ne, .int .i64 lo, .int .i64 hi, .bool up, .int .i64 st] 33 (0, 0)))) (.cells #[.int .i64 la, .int .i64 dy, .int .i64 mi, .slice A m cp, .int .i64 e1, .int .i64 n1, .int .i64 fe, .int .i64 fn, .int .i64 fu, .int .i64 ho, .int .i64 (ho + 1), .int .i64 ne, .int .i64 lo, .int .i64 hi, .bool up, .int .i64 st] 33 (0, 0)); simpa using this
      have hP5 := blk_old hP4 (.cells #[.int .i64 la, .int .i64 dy, .int .i64 mi, .slice A m cp, .int .i64 e1, .int .i64 n1, .int .i64 fe, .int .i64 fn, .int .i64 fu, .int .i64 ho, .int .i64 (ho + 1), .int .i64 ne, .int .i64 lo, .int .i64 hi, .bool up, .int .i64 st] 33 (0, 0))
      have hQ5 := blk_old hQ4 (.cells #[.int .i64 la, .int .i64 dy, .int .i64 mi, .slice A m cp, .int .i64 e1, .int .i64 n1, .int .i64 fe, .int .i64 fn, .int .i64 fu, .int .i64 ho, .int .i64 (ho + 1), .int .i64 ne, .int .i64 lo, .int .i64 hi, .bool up, .int .i64 st] 33 (0, 0))
      have hB5 := hB4.alloc hB4.size (.cells #[.int .i64 la, .int .i64 dy, .int .i64 mi, .slice A m cp, .int .i64 e1, .int .i64 n1, .int .i64 fe, .int .i64 fn, .int .i64 fu, .int .i64 ho, .int .i64 (ho + 1), .int .i64 ne, .int .i64 lo, .int .i64 hi, .bool up, .int .i64 st] 33 (0, 0))
      have hO5 := hO4.next (bel1 _ (.cells #[.int .i64 la, .int .i64 dy, .int .i64 mi, .slice A m cp, .int .i64 e1, .int .i64 n1, .int .i64 fe, .int .i64 fn, .int .i64 fu, .int .i64 ho, .int .i64 (ho + 1), .int .i64 ne, .int .i64 lo, .int .i64 hi, .bool up, .int .i64 st] 33 (0, 0)))
      have zBR := hB4.size
      go_wp2_with (first | (refine wpList_load_row rfl 33 _ rfl _ rfl _ _ (0, 0) _ (by assumption) Try.underlying33 rfl (by kernel_rfl) ?_) | (refine wpList_load_rowG (by rfl) 33 _ rfl _ rfl _ _ (0, 0) _ (by assumption) Try.underlying33 rfl (by kernel_rfl) ?_))
      refine (iSV_is (n := 0) la dy mi e1 n1 fe fn fu ho 0 ne lo hi st up none 0 [] _ rfl (.inl rfl) (by omega) HB.out).mono ?_; rintro e' w6 ⟨rfl, hw6⟩
      have hP6 := blk_next hP5 hw6
      have hQ6 := blk_next hQ5 hw6
      have hR6 := blk_next hR5 hw6
      have hO6 := hO5.next hw6
      have hB6 := bel_next hB5 hw6
      go_wp2_with (first | (refine wpList_load_row rfl 33 _ rfl _ rfl _ _ (0, 0) _ (by assumption) Try.underlying33 rfl (by kernel_rfl) ?_) | (refine wpList_load_rowG (by rfl) 33 _ rfl _ rfl _ _ (0, 0) _ (by assumption) Try.underlying33 rfl (by kernel_rfl) ?_))
      refine (iSV_is la dy mi e1 n1 fe fn fu ho (ho + 1) ne lo hi st up A cp xs _ HM.out hO6.row (by omega) HF.out).mono ?_; rintro e' w7 ⟨rfl, hw7⟩
      have hP7 := blk_next hP6 hw7
      have hQ7 := blk_next hQ6 hw7
      have hR7 := blk_next hR6 hw7
      have hO7 := hO6.next hw7
      have hB7 := bel_next hB6 hw7
      go_wp2_with (first | (refine wpList_load_row rfl 33 _ rfl _ rfl _ _ (0, 0) _ (by assumption) Try.underlying33 rfl (by kernel_rfl) ?_) | (refine wpList_load_rowG (by rfl) 33 _ rfl _ rfl _ _ (0, 0) _ (by assumption) Try.underlying33 rfl (by kernel_rfl) ?_))
      refine (alive_bel _).mono ?_; rintro e' w8 ⟨rfl, hw8⟩
      have hP8 := blk_next hP7 hw8
      have hQ8 := blk_next hQ7 hw8
      have hR8 := blk_next hR7 hw8
      have hO8 := hO7.next hw8
      have hB8 := bel_next hB7 hw8
      go_wp2_with (first | (refine wpList_load_row rfl 33 _ rfl _ rfl _ _ (0, 0) _ (by assumption) Try.underlying33 rfl (by kernel_rfl) ?_) | (refine wpList_load_rowG (by rfl) 33 _ rfl _ rfl _ _ (0, 0) _ (by assumption) Try.underlying33 rfl (by kernel_rfl) ?_))
      go_ret
      exact ⟨rfl, by first | exact hB8 | exact hB8.drew⟩
set_option maxRecDepth 100000 in
theorem lifted (os : Os) (started : os.Started) (H : Type) (enc : TypeId × Value → H) :
    ReturnsInHanded {} Try.checked os 3 .any (Rows.fnSiteValidSpec.pre6 enc Try.prog Try.f3 Rows.fnSiteValidRow.domain false) (Rows.fnSiteValidSpec.post enc Try.prog Try.f3 false true false false) := by
  refine returnsInHanded_of_change (C := Try.checked) own started (by kernel_rfl) Try.func3
    (ChangeSpec.witness6 (enc := enc) (C := Try.checked) false ⟨#[], #[.slice none 0 0], []⟩ 8 (by kernel_rfl) (by kernel_rfl) (by kernel_rfl) (by kernel_rfl)) ?_
  intro W base args ds gs before hval0 hW hcnd _
  have hval : ∀ (j : Nat) t v, Try.f3.params[j]? = some t → args[j]? = some v → Value.okWide Try.prog W .any base t v := hval0
  have hW' := hW
  obtain ⟨p, q, hA0, hV, rfl, hfz, hnd⟩ := hW
  have hA : DataW.TrodAll enc Try.prog W 0 (fun _ => true) true Try.f3.params.toList args.toList ds p := hA0
  rw [Try.params3] at hA hval
  obtain ⟨v0, vs0, d0, ds0, p0, q0, hargs, rfl, rfl, h0, r0⟩ := trodAll_cons hA
  obtain ⟨rfl, rfl, rfl⟩ := trodAll_nil r0
  obtain rfl : args = #[v0] := by cases args; simp_all
  obtain ⟨rfl, rfl⟩ := trodVars_none hV
  have k0 := h0
  have lt0 : ∀ x ∈ p0, x.block < W.heap.size := by obtain ⟨m, hm⟩ := k0; exact DataW.trod_lt m _ _ _ hm
  obtain ⟨a0, len0, cap0, rfl⟩ := okWide_slice Try.underlying22 (hval 0 22 v0 rfl rfl)
  have w0 : CodeOk W a0 len0 cap0 := by
    obtain ⟨fuel, hf⟩ := h0
    rcases open_ints Try.underlying22 Try.underlying5 (by kernel_rfl) hf with ⟨hcs, _⟩ | ⟨x, l, c, zs, hcs, _, hl, hm, hz, _, hcell, hwz⟩
    · simp [Value.cells] at hcs
      obtain ⟨rfl, rfl, rfl⟩ := hcs
      exact code_nil W
    · simp [Value.cells] at hcs
      obtain ⟨rfl, rfl, rfl⟩ := hcs
      exact code_ok hl hm (by simp at hz; omega) hcell hwz
  clear hA0 hval0
  refine (walk W a0 len0 cap0 w0).mono fun e W' ⟨he, bel⟩ => ?_
  subst he
  exact ⟨_, rfl, _, _, _, [], _, [], hW', trodAll_mk1 (shut_bool Try.underlying4 _), (trodAll_cons_mk (Below.trod laidOut (by kernel_rfl) (of_decide_eq_true (by kernel_rfl)) k0 bel lt0) trodAll_mk0), rfl, bel.frame _, fun h => by cases h⟩
theorem over : Rows.fnSiteValidRow.holds Try.pinned (OpenSpec.ofChange Rows.fnSiteValidSpec) :=
  OpenClaim.holds_of_wide 3 Try.f3 rfl rfl rfl rfl rfl rfl rfl ⟨rfl, rfl, rfl, rfl, rfl⟩ rfl rfl rfl rfl rfl (by kernel_rfl) Try.func3 (by kernel_rfl)
    (of_decide_eq_true (by kernel_rfl)) (by unfold Func.isWrapper; first | (rw [if_pos (by decide +kernel)]; kernel_rfl) | (rw [if_neg (by decide +kernel)]; exact ⟨rfl, rfl⟩))
    (fun os started H enc _ => lifted os started H enc)
/-- The statement. -/
theorem proved : Rows.FnSiteValidSaid :=
  over
#print axioms proved
end Go.Proofs.Ytbklgpghonigjaa.fnSiteValid
