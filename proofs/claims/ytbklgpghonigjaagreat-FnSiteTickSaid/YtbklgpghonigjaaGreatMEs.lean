/- Es: texts joined. -/
import Derived.Test.YtbklgpghonigjaaGreatMEr
namespace Go.Proofs.YtbklgpghonigjaaGreat
open Go Go.Deep Go.ChangeShapes Go.WideShapes Go.ChangeAt Go.RowKit
set_option linter.unusedSimpArgs false
set_option linter.unusedVariables false
set_option maxRecDepth 100000 in
set_option maxHeartbeats 8000000 in
theorem drSiteTick_any (a : Option Addr) (len cap : Nat) (w : World) (h : CodeOk w a len cap) : Calls Tryz.prog 20 #[.slice a len cap] w (DrewSite w) := by
  go_enter Tryz.func20, Tryz.ntmps20
  go_wp2_with fail
  refine (open_any _ _ _ _ (code_below h (bel1 w (.cells #[.int .i64 0, .int .i64 0, .int .i64 0, .slice none 0 0, .int .i64 0, .int .i64 0, .int .i64 0, .int .i64 0, .int .i64 0, .int .i64 0, .int .i64 0, .int .i64 0, .int .i64 0, .int .i64 0, .bool false, .int .i64 0] 33 (0, 0))))).mono ?_; rintro e w1 ⟨B, rfl, hB, h1, hb1⟩
  obtain ⟨hZ1, hB1⟩ := ownb hb1
  simp at hB
  have hz1 := hB1.size
  have hzR := blk_lt hZ1
  go_wp2_with fail
  refine (site_any B 0 9 _ h1 (by omega) (by omega) (by omega)).mono ?_; rintro e w2 ⟨la, dy, mi, e1, n1, fe, fn, fu, ho, ha, ne, lo, hi, st, up, xs, A, cap, rfl, hho, hx6, hO2, h2, hx2⟩
  have hBz := h2.lt
  have hz2 := hx2.size
  have hO2 := SOwn.mono (base' := w.heap.size) hO2 hz1
  have hZ2 := blk_ext hZ1 hx2 (by omega)
  have hX2 := hx2.below (N := w.heap.size) (by omega) hB1.size
  have hB2 := hB1.trans hX2
  have hC3 := blk_new w2 (.cells #[.int .i64 la, .int .i64 dy, .int .i64 mi, .slice A xs.length cap, .int .i64 e1, .int .i64 n1, .int .i64 fe, .int .i64 fn, .int .i64 fu, .int .i64 ho, .int .i64 ha, .int .i64 ne, .int .i64 lo, .int .i64 hi, .bool up, .int .i64 st] 33 (0, 0))
  have hZ3 := blk_old hZ2 (.cells #[.int .i64 la, .int .i64 dy, .int .i64 mi, .slice A xs.length cap, .int .i64 e1, .int .i64 n1, .int .i64 fe, .int .i64 fn, .int .i64 fu, .int .i64 ho, .int .i64 ha, .int .i64 ne, .int .i64 lo, .int .i64 hi, .bool up, .int .i64 st] 33 (0, 0))
  have hR3 := h2.alloc (.cells #[.int .i64 la, .int .i64 dy, .int .i64 mi, .slice A xs.length cap, .int .i64 e1, .int .i64 n1, .int .i64 fe, .int .i64 fn, .int .i64 fu, .int .i64 ho, .int .i64 ha, .int .i64 ne, .int .i64 lo, .int .i64 hi, .bool up, .int .i64 st] 33 (0, 0))
  have hE3 := (Ext.refl B w2).alloc (.cells #[.int .i64 la, .int .i64 dy, .int .i64 mi, .slice A xs.length cap, .int .i64 e1, .int .i64 n1, .int .i64 fe, .int .i64 fn, .int .i64 fu, .int .i64 ho, .int .i64 ha, .int .i64 ne, .int .i64 lo, .int .i64 hi, .bool up, .int .i64 st] 33 (0, 0))
  have hO3 := hO2.alloc (.cells #[.int .i64 la, .int .i64 dy, .int .i64 mi, .slice A xs.length cap, .int .i64 e1, .int .i64 n1, .int .i64 fe, .int .i64 fn, .int .i64 fu, .int .i64 ho, .int .i64 ha, .int .i64 ne, .int .i64 lo, .int .i64 hi, .bool up, .int .i64 st] 33 (0, 0))
  have hB3 := hB2.alloc hB2.size (.cells #[.int .i64 la, .int .i64 dy, .int .i64 mi, .slice A xs.length cap, .int .i64 e1, .int .i64 n1, .int .i64 fe, .int .i64 fn, .int .i64 fu, .int .i64 ho, .int .i64 ha, .int .i64 ne, .int .i64 lo, .int .i64 hi, .bool up, .int .i64 st] 33 (0, 0))
  go_wp2_with fail
  refine (pick_any B _ 6 _ hR3 (by omega) (by omega) (by omega)).mono ?_; rintro e w4 ⟨j, rfl, j0, j1, h4, hx4⟩
  have hC4 := blk_ext hC3 hx4 (by omega)
  have hZ4 := blk_ext hZ3 hx4 (by omega)
  have hB4 := hB3.trans (hx4.below (N := w.heap.size) (by omega) hB3.size)
  have hO4 : SOwn encBlock w4 w.heap.size 40 A cap xs := hO3.grown_far (row := some B) ⟨hx4.os, hx4.tape, hx4.output, hx4.size, fun k hk hne => hx4.block k hk (fun e => hne (by rw [e]))⟩ (fun g hg e => by cases e; obtain ⟨sl, p9, hb9, _⟩ := hR3; have := SOwn.ne_typeE (n := 0) hO3 hb9 (by decide); rw [hg] at this; simp [Value.ownBlock] at this)
  generalize hC9 : w2.heap.size = C at *
  have hCw : w.heap.size < C := by have := blk_lt hZ2; omega
  by_cases cj : j = 0
  · subst cj
    obtain ⟨cC0, cC1, cC2, cC3, cC4, cC5, cC6, cC7, cC8, cC9, cC10, cC11, cC12, cC13, cC14, cC15, fC0, fC1, fC2, fC3, fC4, fC5, fC6, fC7, fC8, fC9, fC10, fC11, fC12, fC13, fC14, fC15, zC⟩ := blk16 hC4
    go_wp2_with fail
    have hC5 := blk16_at2 (v := .int .i64 1425) hC4
    have hZ5 := blk_setOther (i := 2) hZ4 (show w.heap.size ≠ C by omega) (.int .i64 1425)
    have hR5 := h4.setOther (C := C) (i := 2) (by omega) (.int .i64 1425)
    have hO5 := SOwn.boxE (i := 2) hO4 hC4 (by decide) (.int .i64 1425)
    have hB5 := hB4.setCell (p := ⟨C, 2, none⟩) (by show _ ≤ C; omega) (.int .i64 1425)
    clear cC0 fC0 cC1 fC1 cC2 fC2 cC3 fC3 cC4 fC4 cC5 fC5 cC6 fC6 cC7 fC7 cC8 fC8 cC9 fC9 cC10 fC10 cC11 fC11 cC12 fC12 cC13 fC13 cC14 fC14 cC15 fC15
    generalize w4.setCell ⟨C, 2, none⟩ (.int .i64 1425) = w5 at hC5 hZ5 hR5 hO5 hB5 ⊢
    refine (pick_any B _ 2 _ hR5 (by omega) (by omega) (by omega)).mono ?_; rintro e w6 ⟨i, rfl, i0, i1, h6, hx6_⟩
    have hC6 := blk_ext hC5 hx6_ (by omega)
    have hZ6 := blk_ext hZ5 hx6_ (by omega)
    have hB6 := hB5.trans (hx6_.below (N := w.heap.size) (by omega) hB5.size)
    have hO6 : SOwn encBlock w6 w.heap.size 40 A cap xs := hO5.grown_far (row := some B) ⟨hx6_.os, hx6_.tape, hx6_.output, hx6_.size, fun k hk hne => hx6_.block k hk (fun e => hne (by rw [e]))⟩ (fun g hg e => by cases e; obtain ⟨sl, p9, hb9, _⟩ := hR5; have := SOwn.ne_typeE (n := 0) hO5 hb9 (by decide); rw [hg] at this; simp [Value.ownBlock] at this)
    obtain ⟨cC0, cC1, cC2, cC3, cC4, cC5, cC6, cC7, cC8, cC9, cC10, cC11, cC12, cC13, cC14, cC15, fC0, fC1, fC2, fC3, fC4, fC5, fC6, fC7, fC8, fC9, fC10, fC11, fC12, fC13, fC14, fC15, zC⟩ := blk16 hC6
    have hC7 := blk16_at1 (v := .int .i64 (364 + i)) hC6
    have hZ7 := blk_setOther (i := 1) hZ6 (show w.heap.size ≠ C by omega) (.int .i64 (364 + i))
    have hO7 := SOwn.boxE (i := 1) hO6 hC6 (by decide) (.int .i64 (364 + i))
    have hB7 := hB6.setCell (p := ⟨C, 1, none⟩) (by show _ ≤ C; omega) (.int .i64 (364 + i))
    obtain ⟨hO9, hB9, hZ9⟩ := draw_ret la (364 + i) 1425 e1 n1 fe fn fu ho ha ne lo hi st up xs A cap hZ7 hO7 hB7
    go_wp2_with (first | (refine wpList_load_row rfl 33 _ rfl _ rfl _ _ (0, 0) _ hC7 Tryz.underlying33 rfl (by kernel_rfl) ?_) | (refine wpList_store_row rfl 33 (.tmp 2) (.tmp 17) rfl w.heap.size _ rfl rfl 33 _ hZ7 (by kernel_rfl) (by kernel_rfl) (by kernel_rfl) ?_))
    exact bodyPost_ret (v := .agg #[.int .i64 la, .int .i64 (364 + i), .int .i64 1425, .slice A xs.length cap, .int .i64 e1, .int .i64 n1, .int .i64 fe, .int .i64 fn, .int .i64 fu, .int .i64 ho, .int .i64 ha, .int .i64 ne, .int .i64 lo, .int .i64 hi, .bool up, .int .i64 st]) (results_cell_row Tryz.results20 _ _ _ _ _ (0, 0) _ rfl hZ9 Tryz.underlying33 rfl (by kernel_rfl)) rfl ⟨la, (364 + i), 1425, e1, n1, fe, fn, fu, ho, ha, ne, lo, hi, st, up, xs, A, cap, rfl, hho, hx6, hO9, hB9⟩
  · have ej : (j == 0) = false := by rw [beq_eq_false_iff_ne]; exact cj
    obtain ⟨hO9, hB9, hZ9⟩ := draw_ret la dy mi e1 n1 fe fn fu ho ha ne lo hi st up xs A cap hZ4 hO4 hB4
    go_wp2_with (first | (refine wpList_load_row rfl 33 _ rfl _ rfl _ _ (0, 0) _ hC4 Tryz.underlying33 rfl (by kernel_rfl) ?_) | (refine wpList_store_row rfl 33 (.tmp 2) (.tmp 17) rfl w.heap.size _ rfl rfl 33 _ hZ4 (by kernel_rfl) (by kernel_rfl) (by kernel_rfl) ?_))
    exact bodyPost_ret (v := .agg #[.int .i64 la, .int .i64 dy, .int .i64 mi, .slice A xs.length cap, .int .i64 e1, .int .i64 n1, .int .i64 fe, .int .i64 fn, .int .i64 fu, .int .i64 ho, .int .i64 ha, .int .i64 ne, .int .i64 lo, .int .i64 hi, .bool up, .int .i64 st]) (results_cell_row Tryz.results20 _ _ _ _ _ (0, 0) _ rfl hZ9 Tryz.underlying33 rfl (by kernel_rfl)) rfl ⟨la, dy, mi, e1, n1, fe, fn, fu, ho, ha, ne, lo, hi, st, up, xs, A, cap, rfl, hho, hx6, hO9, hB9⟩
end Go.Proofs.YtbklgpghonigjaaGreat
