/- QM: texts joined. -/
import Derived.Laws.Rows
import Derived.Laws.AppendOwn
import Derived.Test.YtbklgpghonigjaaGreatMQL
namespace Go.Proofs.YtbklgpghonigjaaGreat
open Go Go.Deep Go.ChangeShapes Go.WideShapes Go.ChangeAt Go.RowKit
set_option linter.unusedSimpArgs false
set_option linter.unusedVariables false
set_option maxRecDepth 100000 in
set_option maxHeartbeats 4000000 in
theorem sCopy_some (la dy mi e1 n1 fe fn fu ho ha ne lo hi st : Int) (up : Bool) (a : Addr) (cap : Nat) (xs : List VBlock) {n : Nat} (w : World) (hn : xs.length = n) (h : SRow encBlock w (some a) xs) (hl : n ≤ 2000000) : Calls Tryz.prog 63 #[.agg #[.int .i64 la, .int .i64 dy, .int .i64 mi, .slice (some a) n cap, .int .i64 e1, .int .i64 n1, .int .i64 fe, .int .i64 fn, .int .i64 fu, .int .i64 ho, .int .i64 ha, .int .i64 ne, .int .i64 lo, .int .i64 hi, .bool up, .int .i64 st]] w (CopyB la dy mi e1 n1 fe fn fu ho ha ne lo hi st up xs w) := by
  have HN := Lib.hid hn
  have H := Lib.hid h
  clear hn h
  obtain ⟨i0, hi0, hz0, hz1, hz2⟩ := info_parts infoBlock
  have HI := Lib.hid (And.intro hi0 (And.intro hz0 (And.intro hz1 hz2)))
  clear hi0 hz0 hz1 hz2
  have hP0 := blk_old (blk_new w (.cells #[.int .i64 la, .int .i64 dy, .int .i64 mi, .slice (some a) n cap, .int .i64 e1, .int .i64 n1, .int .i64 fe, .int .i64 fn, .int .i64 fu, .int .i64 ho, .int .i64 ha, .int .i64 ne, .int .i64 lo, .int .i64 hi, .bool up, .int .i64 st] 33 (0, 0))) (.cells #[.int .i64 0, .int .i64 0, .int .i64 0, .slice none 0 0, .int .i64 0, .int .i64 0, .int .i64 0, .int .i64 0, .int .i64 0, .int .i64 0, .int .i64 0, .int .i64 0, .int .i64 0, .int .i64 0, .bool false, .int .i64 0] 33 (0, 0))
  have hQ0 := blk_new (w.alloc (.cells #[.int .i64 la, .int .i64 dy, .int .i64 mi, .slice (some a) n cap, .int .i64 e1, .int .i64 n1, .int .i64 fe, .int .i64 fn, .int .i64 fu, .int .i64 ho, .int .i64 ha, .int .i64 ne, .int .i64 lo, .int .i64 hi, .bool up, .int .i64 st] 33 (0, 0))) (.cells #[.int .i64 0, .int .i64 0, .int .i64 0, .slice none 0 0, .int .i64 0, .int .i64 0, .int .i64 0, .int .i64 0, .int .i64 0, .int .i64 0, .int .i64 0, .int .i64 0, .int .i64 0, .int .i64 0, .bool false, .int .i64 0] 33 (0, 0))
  have hsz : (w.alloc (.cells #[.int .i64 la, .int .i64 dy, .int .i64 mi, .slice (some a) n cap, .int .i64 e1, .int .i64 n1, .int .i64 fe, .int .i64 fn, .int .i64 fu, .int .i64 ho, .int .i64 ha, .int .i64 ne, .int .i64 lo, .int .i64 hi, .bool up, .int .i64 st] 33 (0, 0))).heap.size = w.heap.size + 1 := by simp
  rw [hsz] at hQ0
  have hzz : ((w.alloc (.cells #[.int .i64 la, .int .i64 dy, .int .i64 mi, .slice (some a) n cap, .int .i64 e1, .int .i64 n1, .int .i64 fe, .int .i64 fn, .int .i64 fu, .int .i64 ho, .int .i64 ha, .int .i64 ne, .int .i64 lo, .int .i64 hi, .bool up, .int .i64 st] 33 (0, 0))).alloc (.cells #[.int .i64 0, .int .i64 0, .int .i64 0, .slice none 0 0, .int .i64 0, .int .i64 0, .int .i64 0, .int .i64 0, .int .i64 0, .int .i64 0, .int .i64 0, .int .i64 0, .int .i64 0, .int .i64 0, .bool false, .int .i64 0] 33 (0, 0))).heap.size = w.heap.size + 1 + 1 := by simp
  have hB0 := bel2 w (.cells #[.int .i64 la, .int .i64 dy, .int .i64 mi, .slice (some a) n cap, .int .i64 e1, .int .i64 n1, .int .i64 fe, .int .i64 fn, .int .i64 fu, .int .i64 ho, .int .i64 ha, .int .i64 ne, .int .i64 lo, .int .i64 hi, .bool up, .int .i64 st] 33 (0, 0)) (.cells #[.int .i64 0, .int .i64 0, .int .i64 0, .slice none 0 0, .int .i64 0, .int .i64 0, .int .i64 0, .int .i64 0, .int .i64 0, .int .i64 0, .int .i64 0, .int .i64 0, .int .i64 0, .int .i64 0, .bool false, .int .i64 0] 33 (0, 0))
  generalize hwa : (w.alloc (.cells #[.int .i64 la, .int .i64 dy, .int .i64 mi, .slice (some a) n cap, .int .i64 e1, .int .i64 n1, .int .i64 fe, .int .i64 fn, .int .i64 fu, .int .i64 ho, .int .i64 ha, .int .i64 ne, .int .i64 lo, .int .i64 hi, .bool up, .int .i64 st] 33 (0, 0))).alloc (.cells #[.int .i64 0, .int .i64 0, .int .i64 0, .slice none 0 0, .int .i64 0, .int .i64 0, .int .i64 0, .int .i64 0, .int .i64 0, .int .i64 0, .int .i64 0, .int .i64 0, .int .i64 0, .int .i64 0, .bool false, .int .i64 0] 33 (0, 0)) = wa at hP0 hQ0 hzz hB0
  go_enter Tryz.func63, Tryz.ntmps63
  obtain ⟨cP0, cP1, cP2, cP3, cP4, cP5, cP6, cP7, cP8, cP9, cP10, cP11, cP12, cP13, cP14, cP15, fP0, fP1, fP2, fP3, fP4, fP5, fP6, fP7, fP8, fP9, fP10, fP11, fP12, fP13, fP14, fP15, zP⟩ := blk16 hP0
  have hsz1 : (wa.alloc (.cells #[.int .i64 la, .int .i64 dy, .int .i64 mi, .slice (some a) n cap, .int .i64 e1, .int .i64 n1, .int .i64 fe, .int .i64 fn, .int .i64 fu, .int .i64 ho, .int .i64 ha, .int .i64 ne, .int .i64 lo, .int .i64 hi, .bool up, .int .i64 st] 33 (0, 0))).heap.size = w.heap.size + 1 + 1 + 1 := by simp [hzz]
  have hOe := SOwn.empty (E := encBlock) (base := w.heap.size) (blk_new (wa.alloc (.cells #[.int .i64 la, .int .i64 dy, .int .i64 mi, .slice (some a) n cap, .int .i64 e1, .int .i64 n1, .int .i64 fe, .int .i64 fn, .int .i64 fu, .int .i64 ho, .int .i64 ha, .int .i64 ne, .int .i64 lo, .int .i64 hi, .bool up, .int .i64 st] 33 (0, 0))) (.cells #[] 40)) (by rw [hsz1]; omega)
  rw [hsz1] at hOe
  have hR0 : ((wa.alloc (.cells #[.int .i64 la, .int .i64 dy, .int .i64 mi, .slice (some a) n cap, .int .i64 e1, .int .i64 n1, .int .i64 fe, .int .i64 fn, .int .i64 fu, .int .i64 ho, .int .i64 ha, .int .i64 ne, .int .i64 lo, .int .i64 hi, .bool up, .int .i64 st] 33 (0, 0))).alloc (.cells #[] 40)).heap[w.heap.size + 1 + 1]? = some (.cells #[.int .i64 la, .int .i64 dy, .int .i64 mi, .slice (some a) n cap, .int .i64 e1, .int .i64 n1, .int .i64 fe, .int .i64 fn, .int .i64 fu, .int .i64 ho, .int .i64 ha, .int .i64 ne, .int .i64 lo, .int .i64 hi, .bool up, .int .i64 st] 33 (0, 0)) := by have := blk_old (blk_new wa (.cells #[.int .i64 la, .int .i64 dy, .int .i64 mi, .slice (some a) n cap, .int .i64 e1, .int .i64 n1, .int .i64 fe, .int .i64 fn, .int .i64 fu, .int .i64 ho, .int .i64 ha, .int .i64 ne, .int .i64 lo, .int .i64 hi, .bool up, .int .i64 st] 33 (0, 0))) (.cells #[] 40); rwa [hzz] at this
  have hQ1 := blk_old (blk_old hQ0 (.cells #[.int .i64 la, .int .i64 dy, .int .i64 mi, .slice (some a) n cap, .int .i64 e1, .int .i64 n1, .int .i64 fe, .int .i64 fn, .int .i64 fu, .int .i64 ho, .int .i64 ha, .int .i64 ne, .int .i64 lo, .int .i64 hi, .bool up, .int .i64 st] 33 (0, 0))) (.cells #[] 40)
  have hB1 := (hB0.alloc hB0.size (.cells #[.int .i64 la, .int .i64 dy, .int .i64 mi, .slice (some a) n cap, .int .i64 e1, .int .i64 n1, .int .i64 fe, .int .i64 fn, .int .i64 fu, .int .i64 ho, .int .i64 ha, .int .i64 ne, .int .i64 lo, .int .i64 hi, .bool up, .int .i64 st] 33 (0, 0))).alloc (hB0.alloc hB0.size (.cells #[.int .i64 la, .int .i64 dy, .int .i64 mi, .slice (some a) n cap, .int .i64 e1, .int .i64 n1, .int .i64 fe, .int .i64 fn, .int .i64 fu, .int .i64 ho, .int .i64 ha, .int .i64 ne, .int .i64 lo, .int .i64 hi, .bool up, .int .i64 st] 33 (0, 0))).size (.cells #[] 40)
  have hzz2 : ((wa.alloc (.cells #[.int .i64 la, .int .i64 dy, .int .i64 mi, .slice (some a) n cap, .int .i64 e1, .int .i64 n1, .int .i64 fe, .int .i64 fn, .int .i64 fu, .int .i64 ho, .int .i64 ha, .int .i64 ne, .int .i64 lo, .int .i64 hi, .bool up, .int .i64 st] 33 (0, 0))).alloc (.cells #[] 40)).heap.size = w.heap.size + 1 + 1 + 1 + 1 := by simp [hzz]
  have hsrc := SRow.newsE (H.out.next (((hB0.alloc hB0.size (.cells #[.int .i64 la, .int .i64 dy, .int .i64 mi, .slice (some a) n cap, .int .i64 e1, .int .i64 n1, .int .i64 fe, .int .i64 fn, .int .i64 fu, .int .i64 ho, .int .i64 ha, .int .i64 ne, .int .i64 lo, .int .i64 hi, .bool up, .int .i64 st] 33 (0, 0))).alloc (hB0.alloc hB0.size (.cells #[.int .i64 la, .int .i64 dy, .int .i64 mi, .slice (some a) n cap, .int .i64 e1, .int .i64 n1, .int .i64 fe, .int .i64 fn, .int .i64 fu, .int .i64 ho, .int .i64 ha, .int .i64 ne, .int .i64 lo, .int .i64 hi, .bool up, .int .i64 st] 33 (0, 0))).size (.cells #[] 40))))
  go_wp2_with (first | (refine wpList_load_row rfl 33 _ rfl _ rfl _ _ (0, 0) _ hP0 Tryz.underlying33 rfl (by kernel_rfl) ?_) | (at_builtin; refine wpList_append_own _ rfl (.tmp 5) (.tmp 7) _ rfl w.heap.size 40 i0 _ 5 40 Tryz.underlying23 HI.out.1 HI.out.2.1 HI.out.2.2.1 HI.out.2.2.2 rfl (by omega) (.slice (some ⟨w.heap.size + 1 + 1 + 1, 0, none⟩) 0 0) 0 [] rfl hOe a n cap (encBlock.flat xs) rfl (by rw [encBlock.flat_len, HN.out]; rfl) hsrc (encBlock.flat_one _) (by simp only [maxLen]; omega) (by omega) (by rw [hzz2]; omega) ?_; intro v9 w9 hown9 hgr9 hnil9; (have hn9 : 0 + n = n := by omega); (rw [hn9] at hown9); (have hv9 : v9 ≠ .slice none 0 0 := fun e => by have := (hnil9.1 e).1; simp at this); (obtain ⟨g, cp2, rfl⟩ : ∃ g cp, v9 = .slice (some ⟨g, 0, none⟩) n cp := by (rcases hown9.2 with ⟨e, _⟩ | ⟨g, cap', cur, e, _⟩; (exact absurd e hv9); (exact ⟨g, cap', e⟩))); (clear hnil9 hv9 hsrc); (have hO9 : SOwn encBlock w9 w.heap.size 40 (some ⟨g, 0, none⟩) cp2 xs := SOwn.of_raw hown9 (by simp) HN.out); (have hB9 := SOwn.below_grown (w0 := w) hOe hB1 hgr9); (have hR9 := blk_grownE hR0 hgr9 (by simp [Value.ownBlock])); (have hQ9 := blk_grownE hQ1 hgr9 (by simp [Value.ownBlock] <;> omega)); (clear hown9 hgr9 hOe hR0 hQ1 hB1 hP0 hQ0 cP0 fP0 cP1 fP1 cP2 fP2 cP3 fP3 cP4 fP4 cP5 fP5 cP6 fP6 cP7 fP7 cP8 fP8 cP9 fP9 cP10 fP10 cP11 fP11 cP12 fP12 cP13 fP13 cP14 fP14 cP15 fP15); (obtain ⟨cR0, cR1, cR2, cR3, cR4, cR5, cR6, cR7, cR8, cR9, cR10, cR11, cR12, cR13, cR14, cR15, fR0, fR1, fR2, fR3, fR4, fR5, fR6, fR7, fR8, fR9, fR10, fR11, fR12, fR13, fR14, fR15, zR⟩ := blk16 hR9); (obtain ⟨cQ0, cQ1, cQ2, cQ3, cQ4, cQ5, cQ6, cQ7, cQ8, cQ9, cQ10, cQ11, cQ12, cQ13, cQ14, cQ15, fQ0, fQ1, fQ2, fQ3, fQ4, fQ5, fQ6, fQ7, fQ8, fQ9, fQ10, fQ11, fQ12, fQ13, fQ14, fQ15, zQ⟩ := blk16 hQ9); (have hR8 := blk16_at3 (v := .slice (some ⟨g, 0, none⟩) n cp2) hR9); (have hQ8 := blk_far (C := (w.heap.size + 1 + 1)) (i := 3) hQ9 (by omega) (.slice (some ⟨g, 0, none⟩) n cp2)); (have hB8 := hB9.setCell (p := ⟨w.heap.size + 1 + 1, 3, none⟩) (by simp <;> omega) (.slice (some ⟨g, 0, none⟩) n cp2)); (have hO8 := SOwn.boxE (i := 3) hO9 hR9 (by decide) (.slice (some ⟨g, 0, none⟩) n cp2))) | (refine wpList_load_row rfl 33 _ rfl _ rfl _ _ (0, 0) _ hR8 Tryz.underlying33 rfl (by kernel_rfl) ?_))
  have hQ7 := blk16_put (y0 := .int .i64 la) (y1 := .int .i64 dy) (y2 := .int .i64 mi) (y3 := .slice (some ⟨g, 0, none⟩) n cp2) (y4 := .int .i64 e1) (y5 := .int .i64 n1) (y6 := .int .i64 fe) (y7 := .int .i64 fn) (y8 := .int .i64 fu) (y9 := .int .i64 ho) (y10 := .int .i64 ha) (y11 := .int .i64 ne) (y12 := .int .i64 lo) (y13 := .int .i64 hi) (y14 := .bool up) (y15 := .int .i64 st) hQ8
  have hO7 := SOwn.far16 hO8 hQ8 (by decide) (.int .i64 la) (.int .i64 dy) (.int .i64 mi) (.slice (some ⟨g, 0, none⟩) n cp2) (.int .i64 e1) (.int .i64 n1) (.int .i64 fe) (.int .i64 fn) (.int .i64 fu) (.int .i64 ho) (.int .i64 ha) (.int .i64 ne) (.int .i64 lo) (.int .i64 hi) (.bool up) (.int .i64 st)
  have hB7 := store16_bel (C := (w.heap.size + 1)) hB8 (by omega) (.int .i64 la) (.int .i64 dy) (.int .i64 mi) (.slice (some ⟨g, 0, none⟩) n cp2) (.int .i64 e1) (.int .i64 n1) (.int .i64 fe) (.int .i64 fn) (.int .i64 fu) (.int .i64 ho) (.int .i64 ha) (.int .i64 ne) (.int .i64 lo) (.int .i64 hi) (.bool up) (.int .i64 st)
  exact bodyPost_ret (v := .agg #[.int .i64 la, .int .i64 dy, .int .i64 mi, .slice (some ⟨g, 0, none⟩) n cp2, .int .i64 e1, .int .i64 n1, .int .i64 fe, .int .i64 fn, .int .i64 fu, .int .i64 ho, .int .i64 ha, .int .i64 ne, .int .i64 lo, .int .i64 hi, .bool up, .int .i64 st]) (results_cell_row Tryz.results63 _ _ _ _ _ (0, 0) _ rfl hQ7 Tryz.underlying33 rfl (by kernel_rfl)) rfl ⟨(some ⟨g, 0, none⟩), cp2, by rw [HN.out], hO7, hB7⟩
set_option maxRecDepth 100000 in
set_option maxHeartbeats 4000000 in
theorem sCopy_none (la dy mi e1 n1 fe fn fu ho ha ne lo hi st : Int) (up : Bool) (cap : Nat) (w : World) : Calls Tryz.prog 63 #[.agg #[.int .i64 la, .int .i64 dy, .int .i64 mi, .slice none 0 cap, .int .i64 e1, .int .i64 n1, .int .i64 fe, .int .i64 fn, .int .i64 fu, .int .i64 ho, .int .i64 ha, .int .i64 ne, .int .i64 lo, .int .i64 hi, .bool up, .int .i64 st]] w (CopyB la dy mi e1 n1 fe fn fu ho ha ne lo hi st up [] w) := by
  obtain ⟨i0, hi0, hz0, hz1, hz2⟩ := info_parts infoBlock
  have HI := Lib.hid (And.intro hi0 (And.intro hz0 (And.intro hz1 hz2)))
  clear hi0 hz0 hz1 hz2
  have hP0 := blk_old (blk_new w (.cells #[.int .i64 la, .int .i64 dy, .int .i64 mi, .slice none 0 cap, .int .i64 e1, .int .i64 n1, .int .i64 fe, .int .i64 fn, .int .i64 fu, .int .i64 ho, .int .i64 ha, .int .i64 ne, .int .i64 lo, .int .i64 hi, .bool up, .int .i64 st] 33 (0, 0))) (.cells #[.int .i64 0, .int .i64 0, .int .i64 0, .slice none 0 0, .int .i64 0, .int .i64 0, .int .i64 0, .int .i64 0, .int .i64 0, .int .i64 0, .int .i64 0, .int .i64 0, .int .i64 0, .int .i64 0, .bool false, .int .i64 0] 33 (0, 0))
  have hQ0 := blk_new (w.alloc (.cells #[.int .i64 la, .int .i64 dy, .int .i64 mi, .slice none 0 cap, .int .i64 e1, .int .i64 n1, .int .i64 fe, .int .i64 fn, .int .i64 fu, .int .i64 ho, .int .i64 ha, .int .i64 ne, .int .i64 lo, .int .i64 hi, .bool up, .int .i64 st] 33 (0, 0))) (.cells #[.int .i64 0, .int .i64 0, .int .i64 0, .slice none 0 0, .int .i64 0, .int .i64 0, .int .i64 0, .int .i64 0, .int .i64 0, .int .i64 0, .int .i64 0, .int .i64 0, .int .i64 0, .int .i64 0, .bool false, .int .i64 0] 33 (0, 0))
  have hsz : (w.alloc (.cells #[.int .i64 la, .int .i64 dy, .int .i64 mi, .slice none 0 cap, .int .i64 e1, .int .i64 n1, .int .i64 fe, .int .i64 fn, .int .i64 fu, .int .i64 ho, .int .i64 ha, .int .i64 ne, .int .i64 lo, .int .i64 hi, .bool up, .int .i64 st] 33 (0, 0))).heap.size = w.heap.size + 1 := by simp
  rw [hsz] at hQ0
  have hzz : ((w.alloc (.cells #[.int .i64 la, .int .i64 dy, .int .i64 mi, .slice none 0 cap, .int .i64 e1, .int .i64 n1, .int .i64 fe, .int .i64 fn, .int .i64 fu, .int .i64 ho, .int .i64 ha, .int .i64 ne, .int .i64 lo, .int .i64 hi, .bool up, .int .i64 st] 33 (0, 0))).alloc (.cells #[.int .i64 0, .int .i64 0, .int .i64 0, .slice none 0 0, .int .i64 0, .int .i64 0, .int .i64 0, .int .i64 0, .int .i64 0, .int .i64 0, .int .i64 0, .int .i64 0, .int .i64 0, .int .i64 0, .bool false, .int .i64 0] 33 (0, 0))).heap.size = w.heap.size + 1 + 1 := by simp
  have hB0 := bel2 w (.cells #[.int .i64 la, .int .i64 dy, .int .i64 mi, .slice none 0 cap, .int .i64 e1, .int .i64 n1, .int .i64 fe, .int .i64 fn, .int .i64 fu, .int .i64 ho, .int .i64 ha, .int .i64 ne, .int .i64 lo, .int .i64 hi, .bool up, .int .i64 st] 33 (0, 0)) (.cells #[.int .i64 0, .int .i64 0, .int .i64 0, .slice none 0 0, .int .i64 0, .int .i64 0, .int .i64 0, .int .i64 0, .int .i64 0, .int .i64 0, .int .i64 0, .int .i64 0, .int .i64 0, .int .i64 0, .bool false, .int .i64 0] 33 (0, 0))
  generalize hwa : (w.alloc (.cells #[.int .i64 la, .int .i64 dy, .int .i64 mi, .slice none 0 cap, .int .i64 e1, .int .i64 n1, .int .i64 fe, .int .i64 fn, .int .i64 fu, .int .i64 ho, .int .i64 ha, .int .i64 ne, .int .i64 lo, .int .i64 hi, .bool up, .int .i64 st] 33 (0, 0))).alloc (.cells #[.int .i64 0, .int .i64 0, .int .i64 0, .slice none 0 0, .int .i64 0, .int .i64 0, .int .i64 0, .int .i64 0, .int .i64 0, .int .i64 0, .int .i64 0, .int .i64 0, .int .i64 0, .int .i64 0, .bool false, .int .i64 0] 33 (0, 0)) = wa at hP0 hQ0 hzz hB0
  go_enter Tryz.func63, Tryz.ntmps63
  obtain ⟨cP0, cP1, cP2, cP3, cP4, cP5, cP6, cP7, cP8, cP9, cP10, cP11, cP12, cP13, cP14, cP15, fP0, fP1, fP2, fP3, fP4, fP5, fP6, fP7, fP8, fP9, fP10, fP11, fP12, fP13, fP14, fP15, zP⟩ := blk16 hP0
  have hsz1 : (wa.alloc (.cells #[.int .i64 la, .int .i64 dy, .int .i64 mi, .slice none 0 cap, .int .i64 e1, .int .i64 n1, .int .i64 fe, .int .i64 fn, .int .i64 fu, .int .i64 ho, .int .i64 ha, .int .i64 ne, .int .i64 lo, .int .i64 hi, .bool up, .int .i64 st] 33 (0, 0))).heap.size = w.heap.size + 1 + 1 + 1 := by simp [hzz]
  have hOe := SOwn.empty (E := encBlock) (base := w.heap.size) (blk_new (wa.alloc (.cells #[.int .i64 la, .int .i64 dy, .int .i64 mi, .slice none 0 cap, .int .i64 e1, .int .i64 n1, .int .i64 fe, .int .i64 fn, .int .i64 fu, .int .i64 ho, .int .i64 ha, .int .i64 ne, .int .i64 lo, .int .i64 hi, .bool up, .int .i64 st] 33 (0, 0))) (.cells #[] 40)) (by rw [hsz1]; omega)
  rw [hsz1] at hOe
  have hR0 : ((wa.alloc (.cells #[.int .i64 la, .int .i64 dy, .int .i64 mi, .slice none 0 cap, .int .i64 e1, .int .i64 n1, .int .i64 fe, .int .i64 fn, .int .i64 fu, .int .i64 ho, .int .i64 ha, .int .i64 ne, .int .i64 lo, .int .i64 hi, .bool up, .int .i64 st] 33 (0, 0))).alloc (.cells #[] 40)).heap[w.heap.size + 1 + 1]? = some (.cells #[.int .i64 la, .int .i64 dy, .int .i64 mi, .slice none 0 cap, .int .i64 e1, .int .i64 n1, .int .i64 fe, .int .i64 fn, .int .i64 fu, .int .i64 ho, .int .i64 ha, .int .i64 ne, .int .i64 lo, .int .i64 hi, .bool up, .int .i64 st] 33 (0, 0)) := by have := blk_old (blk_new wa (.cells #[.int .i64 la, .int .i64 dy, .int .i64 mi, .slice none 0 cap, .int .i64 e1, .int .i64 n1, .int .i64 fe, .int .i64 fn, .int .i64 fu, .int .i64 ho, .int .i64 ha, .int .i64 ne, .int .i64 lo, .int .i64 hi, .bool up, .int .i64 st] 33 (0, 0))) (.cells #[] 40); rwa [hzz] at this
  have hQ1 := blk_old (blk_old hQ0 (.cells #[.int .i64 la, .int .i64 dy, .int .i64 mi, .slice none 0 cap, .int .i64 e1, .int .i64 n1, .int .i64 fe, .int .i64 fn, .int .i64 fu, .int .i64 ho, .int .i64 ha, .int .i64 ne, .int .i64 lo, .int .i64 hi, .bool up, .int .i64 st] 33 (0, 0))) (.cells #[] 40)
  have hB1 := (hB0.alloc hB0.size (.cells #[.int .i64 la, .int .i64 dy, .int .i64 mi, .slice none 0 cap, .int .i64 e1, .int .i64 n1, .int .i64 fe, .int .i64 fn, .int .i64 fu, .int .i64 ho, .int .i64 ha, .int .i64 ne, .int .i64 lo, .int .i64 hi, .bool up, .int .i64 st] 33 (0, 0))).alloc (hB0.alloc hB0.size (.cells #[.int .i64 la, .int .i64 dy, .int .i64 mi, .slice none 0 cap, .int .i64 e1, .int .i64 n1, .int .i64 fe, .int .i64 fn, .int .i64 fu, .int .i64 ho, .int .i64 ha, .int .i64 ne, .int .i64 lo, .int .i64 hi, .bool up, .int .i64 st] 33 (0, 0))).size (.cells #[] 40)
  have hzz2 : ((wa.alloc (.cells #[.int .i64 la, .int .i64 dy, .int .i64 mi, .slice none 0 cap, .int .i64 e1, .int .i64 n1, .int .i64 fe, .int .i64 fn, .int .i64 fu, .int .i64 ho, .int .i64 ha, .int .i64 ne, .int .i64 lo, .int .i64 hi, .bool up, .int .i64 st] 33 (0, 0))).alloc (.cells #[] 40)).heap.size = w.heap.size + 1 + 1 + 1 + 1 := by simp [hzz]
  clear hR0 hQ1 hB1 hzz2 hOe hsz1
  obtain ⟨cQ0, cQ1, cQ2, cQ3, cQ4, cQ5, cQ6, cQ7, cQ8, cQ9, cQ10, cQ11, cQ12, cQ13, cQ14, cQ15, fQ0, fQ1, fQ2, fQ3, fQ4, fQ5, fQ6, fQ7, fQ8, fQ9, fQ10, fQ11, fQ12, fQ13, fQ14, fQ15, zQ⟩ := blk16 hQ0
  go_wp2_with (refine wpList_load_row rfl 33 _ rfl _ rfl _ _ (0, 0) _ (by assumption) Tryz.underlying33 rfl (by kernel_rfl) ?_)
  have hQ3 := blk16_put (y0 := .int .i64 la) (y1 := .int .i64 dy) (y2 := .int .i64 mi) (y3 := .slice (some ⟨w.heap.size + 1 + 1 + 1, 0, none⟩) 0 0) (y4 := .int .i64 e1) (y5 := .int .i64 n1) (y6 := .int .i64 fe) (y7 := .int .i64 fn) (y8 := .int .i64 fu) (y9 := .int .i64 ho) (y10 := .int .i64 ha) (y11 := .int .i64 ne) (y12 := .int .i64 lo) (y13 := .int .i64 hi) (y14 := .bool up) (y15 := .int .i64 st) hQ0
  have hB3 := store16_bel (C := w.heap.size + 1) hB0 (by omega) (.int .i64 la) (.int .i64 dy) (.int .i64 mi) (.slice (some ⟨w.heap.size + 1 + 1 + 1, 0, none⟩) 0 0) (.int .i64 e1) (.int .i64 n1) (.int .i64 fe) (.int .i64 fn) (.int .i64 fu) (.int .i64 ho) (.int .i64 ha) (.int .i64 ne) (.int .i64 lo) (.int .i64 hi) (.bool up) (.int .i64 st)
  have hz3 : (World.setCell (World.setCell (World.setCell (World.setCell (World.setCell (World.setCell (World.setCell (World.setCell (World.setCell (World.setCell (World.setCell (World.setCell (World.setCell (World.setCell (World.setCell (World.setCell wa ⟨w.heap.size + 1, 0, none⟩ (.int .i64 la)) ⟨w.heap.size + 1, 1, none⟩ (.int .i64 dy)) ⟨w.heap.size + 1, 2, none⟩ (.int .i64 mi)) ⟨w.heap.size + 1, 3, none⟩ (.slice (some ⟨w.heap.size + 1 + 1 + 1, 0, none⟩) 0 0)) ⟨w.heap.size + 1, 4, none⟩ (.int .i64 e1)) ⟨w.heap.size + 1, 5, none⟩ (.int .i64 n1)) ⟨w.heap.size + 1, 6, none⟩ (.int .i64 fe)) ⟨w.heap.size + 1, 7, none⟩ (.int .i64 fn)) ⟨w.heap.size + 1, 8, none⟩ (.int .i64 fu)) ⟨w.heap.size + 1, 9, none⟩ (.int .i64 ho)) ⟨w.heap.size + 1, 10, none⟩ (.int .i64 ha)) ⟨w.heap.size + 1, 11, none⟩ (.int .i64 ne)) ⟨w.heap.size + 1, 12, none⟩ (.int .i64 lo)) ⟨w.heap.size + 1, 13, none⟩ (.int .i64 hi)) ⟨w.heap.size + 1, 14, none⟩ (.bool up)) ⟨w.heap.size + 1, 15, none⟩ (.int .i64 st)).heap.size = w.heap.size + 1 + 1 := by simp [hzz]
  generalize (World.setCell (World.setCell (World.setCell (World.setCell (World.setCell (World.setCell (World.setCell (World.setCell (World.setCell (World.setCell (World.setCell (World.setCell (World.setCell (World.setCell (World.setCell (World.setCell wa ⟨w.heap.size + 1, 0, none⟩ (.int .i64 la)) ⟨w.heap.size + 1, 1, none⟩ (.int .i64 dy)) ⟨w.heap.size + 1, 2, none⟩ (.int .i64 mi)) ⟨w.heap.size + 1, 3, none⟩ (.slice (some ⟨w.heap.size + 1 + 1 + 1, 0, none⟩) 0 0)) ⟨w.heap.size + 1, 4, none⟩ (.int .i64 e1)) ⟨w.heap.size + 1, 5, none⟩ (.int .i64 n1)) ⟨w.heap.size + 1, 6, none⟩ (.int .i64 fe)) ⟨w.heap.size + 1, 7, none⟩ (.int .i64 fn)) ⟨w.heap.size + 1, 8, none⟩ (.int .i64 fu)) ⟨w.heap.size + 1, 9, none⟩ (.int .i64 ho)) ⟨w.heap.size + 1, 10, none⟩ (.int .i64 ha)) ⟨w.heap.size + 1, 11, none⟩ (.int .i64 ne)) ⟨w.heap.size + 1, 12, none⟩ (.int .i64 lo)) ⟨w.heap.size + 1, 13, none⟩ (.int .i64 hi)) ⟨w.heap.size + 1, 14, none⟩ (.bool up)) ⟨w.heap.size + 1, 15, none⟩ (.int .i64 st)) = w3 at hQ3 hB3 hz3 ⊢
  have hsz1 : (w3.alloc (.cells #[.int .i64 la, .int .i64 dy, .int .i64 mi, .slice (some ⟨w.heap.size + 1 + 1 + 1, 0, none⟩) 0 0, .int .i64 e1, .int .i64 n1, .int .i64 fe, .int .i64 fn, .int .i64 fu, .int .i64 ho, .int .i64 ha, .int .i64 ne, .int .i64 lo, .int .i64 hi, .bool up, .int .i64 st] 33 (0, 0))).heap.size = w.heap.size + 1 + 1 + 1 := by simp [hz3]
  have hO1 := SOwn.empty (E := encBlock) (base := w.heap.size) (blk_new (w3.alloc (.cells #[.int .i64 la, .int .i64 dy, .int .i64 mi, .slice (some ⟨w.heap.size + 1 + 1 + 1, 0, none⟩) 0 0, .int .i64 e1, .int .i64 n1, .int .i64 fe, .int .i64 fn, .int .i64 fu, .int .i64 ho, .int .i64 ha, .int .i64 ne, .int .i64 lo, .int .i64 hi, .bool up, .int .i64 st] 33 (0, 0))) (.cells #[] 40)) (by rw [hsz1]; omega)
  rw [hsz1] at hO1
  have hQ9 := blk_old (blk_old hQ3 (.cells #[.int .i64 la, .int .i64 dy, .int .i64 mi, .slice (some ⟨w.heap.size + 1 + 1 + 1, 0, none⟩) 0 0, .int .i64 e1, .int .i64 n1, .int .i64 fe, .int .i64 fn, .int .i64 fu, .int .i64 ho, .int .i64 ha, .int .i64 ne, .int .i64 lo, .int .i64 hi, .bool up, .int .i64 st] 33 (0, 0))) (.cells #[] 40)
  have hB9 := (hB3.alloc hB3.size (.cells #[.int .i64 la, .int .i64 dy, .int .i64 mi, .slice (some ⟨w.heap.size + 1 + 1 + 1, 0, none⟩) 0 0, .int .i64 e1, .int .i64 n1, .int .i64 fe, .int .i64 fn, .int .i64 fu, .int .i64 ho, .int .i64 ha, .int .i64 ne, .int .i64 lo, .int .i64 hi, .bool up, .int .i64 st] 33 (0, 0))).alloc (hB3.alloc hB3.size (.cells #[.int .i64 la, .int .i64 dy, .int .i64 mi, .slice (some ⟨w.heap.size + 1 + 1 + 1, 0, none⟩) 0 0, .int .i64 e1, .int .i64 n1, .int .i64 fe, .int .i64 fn, .int .i64 fu, .int .i64 ho, .int .i64 ha, .int .i64 ne, .int .i64 lo, .int .i64 hi, .bool up, .int .i64 st] 33 (0, 0))).size (.cells #[] 40)
  exact bodyPost_ret (v := .agg #[.int .i64 la, .int .i64 dy, .int .i64 mi, .slice (some ⟨w.heap.size + 1 + 1 + 1, 0, none⟩) 0 0, .int .i64 e1, .int .i64 n1, .int .i64 fe, .int .i64 fn, .int .i64 fu, .int .i64 ho, .int .i64 ha, .int .i64 ne, .int .i64 lo, .int .i64 hi, .bool up, .int .i64 st]) (results_cell_row Tryz.results63 _ _ _ _ _ (0, 0) _ rfl hQ9 Tryz.underlying33 rfl (by kernel_rfl)) rfl ⟨(some ⟨w.heap.size + 1 + 1 + 1, 0, none⟩), 0, rfl, hO1, hB9⟩
theorem sCopy_is (la dy mi e1 n1 fe fn fu ho ha ne lo hi st : Int) (up : Bool) (A : Option Addr) (cap : Nat) (xs : List VBlock) {n : Nat} (w : World) (hn : xs.length = n) (h : SRow encBlock w A xs) (hl : n ≤ 2000000) : Calls Tryz.prog 63 #[.agg #[.int .i64 la, .int .i64 dy, .int .i64 mi, .slice A n cap, .int .i64 e1, .int .i64 n1, .int .i64 fe, .int .i64 fn, .int .i64 fu, .int .i64 ho, .int .i64 ha, .int .i64 ne, .int .i64 lo, .int .i64 hi, .bool up, .int .i64 st]] w (CopyB la dy mi e1 n1 fe fn fu ho ha ne lo hi st up xs w) := by
  cases A with
  | none =>
    have hx : xs = [] := by
      rcases h with e | ⟨b, off, e, _⟩
      · exact e
      · cases e
    subst hx
    obtain rfl : n = 0 := hn.symm
    exact sCopy_none la dy mi e1 n1 fe fn fu ho ha ne lo hi st up cap w
  | some a => exact sCopy_some la dy mi e1 n1 fe fn fu ho ha ne lo hi st up a cap xs w hn h hl
end Go.Proofs.YtbklgpghonigjaaGreat
namespace Go.Proofs.YtbklgpghonigjaaGreat
open Go Go.ChangeShapes Go.WideShapes Go.ChangeAt Go.RowKit
set_option linter.unusedSimpArgs false
set_option linter.unusedVariables false
theorem siB_time {la dy mi e1 n1 fe fn fu ho ha ne lo hi st : Int} {xs : List VBlock} (h : siB la dy mi e1 n1 fe fn fu ho ha ne lo hi st xs = true) : siB la (tkD dy mi) (tkM mi) e1 n1 fe fn fu ho ha ne lo hi st xs = true := by
  rw [siB_iff] at h ⊢
  obtain ⟨h1, h2, h3, h4, h5, h6, h7, h8, h9, h10, h11, h12⟩ := h
  obtain ⟨m0, m1, m2⟩ := tkM_bd h3.1 h3.2 h4
  exact ⟨h1, tkD_bd h2.1 h2.2, ⟨m0, m1⟩, m2, h5, h6, h7, h8, h9, h10, h11, h12⟩
theorem siB_has {la dy mi e1 n1 fe fn fu ho ha ne lo hi st : Int} {xs : List VBlock} {g : Int × Int} (h : siB la dy mi e1 n1 fe fn fu ho ha ne lo hi st xs = true) : siB la dy mi e1 n1 fe fn fu ho (stS ho ha g) ne lo hi st xs = true := by
  rw [siB_iff] at h ⊢
  obtain ⟨h1, h2, h3, h4, h5, h6, h7, h8, h9, h10, h11, h12⟩ := h
  exact ⟨h1, h2, h3, h4, h5, h6, h7, h8, stS_bd10 h8.1, h10, h11, h12⟩
theorem gnI_yes {la dy mi e1 n1 fe fn fu ho ha ne lo hi st : Int} {xs : List VBlock} (h : siB la dy mi e1 n1 fe fn fu ho ha ne lo hi st xs = true) : gnI la dy mi e1 n1 fe fn fu ho ha ne lo hi st xs = gxI la e1 n1 fe fn fu xs dy mi := by unfold gnI gxI; rw [if_pos h]
theorem lgI_yes {la dy mi e1 n1 fe fn fu ho ha ne lo hi st : Int} {xs : List VBlock} (h : siB la dy mi e1 n1 fe fn fu ho ha ne lo hi st xs = true) : lgI la dy mi e1 n1 fe fn fu ho ha ne lo hi st xs = lxI la e1 n1 xs dy mi := by unfold lgI lxI; rw [if_pos h]
set_option maxRecDepth 100000 in
set_option maxHeartbeats 4000000 in
theorem sST_bad (la dy mi e1 n1 fe fn fu ho ha ne lo hi st : Int) (up : Bool) (A : Option Addr) (cap : Nat) (xs : List VBlock) {n : Nat} (w : World) (hn : xs.length = n) (h : SRow encBlock w A xs) (hl : n ≤ 2000000) (hb : siB la dy mi e1 n1 fe fn fu ho ha ne lo hi st xs = false) :
    Calls Tryz.prog 23 #[.agg #[.int .i64 la, .int .i64 dy, .int .i64 mi, .slice A n cap, .int .i64 e1, .int .i64 n1, .int .i64 fe, .int .i64 fn, .int .i64 fu, .int .i64 ho, .int .i64 ha, .int .i64 ne, .int .i64 lo, .int .i64 hi, .bool up, .int .i64 st]] w (CopyB 0 0 0 0 0 0 0 0 0 0 0 0 0 0 false [] w) := by
  have HB := Lib.hid hb
  clear hb
  have HN := Lib.hid hn
  have h0 := h
  clear hn h
  have hP0 := blk_old (blk_new w (.cells #[.int .i64 la, .int .i64 dy, .int .i64 mi, .slice A n cap, .int .i64 e1, .int .i64 n1, .int .i64 fe, .int .i64 fn, .int .i64 fu, .int .i64 ho, .int .i64 ha, .int .i64 ne, .int .i64 lo, .int .i64 hi, .bool up, .int .i64 st] 33 (0, 0))) (.cells #[.int .i64 0, .int .i64 0, .int .i64 0, .slice none 0 0, .int .i64 0, .int .i64 0, .int .i64 0, .int .i64 0, .int .i64 0, .int .i64 0, .int .i64 0, .int .i64 0, .int .i64 0, .int .i64 0, .bool false, .int .i64 0] 33 (0, 0))
  have hQ0 := blk_new (w.alloc (.cells #[.int .i64 la, .int .i64 dy, .int .i64 mi, .slice A n cap, .int .i64 e1, .int .i64 n1, .int .i64 fe, .int .i64 fn, .int .i64 fu, .int .i64 ho, .int .i64 ha, .int .i64 ne, .int .i64 lo, .int .i64 hi, .bool up, .int .i64 st] 33 (0, 0))) (.cells #[.int .i64 0, .int .i64 0, .int .i64 0, .slice none 0 0, .int .i64 0, .int .i64 0, .int .i64 0, .int .i64 0, .int .i64 0, .int .i64 0, .int .i64 0, .int .i64 0, .int .i64 0, .int .i64 0, .bool false, .int .i64 0] 33 (0, 0))
  have hsz : (w.alloc (.cells #[.int .i64 la, .int .i64 dy, .int .i64 mi, .slice A n cap, .int .i64 e1, .int .i64 n1, .int .i64 fe, .int .i64 fn, .int .i64 fu, .int .i64 ho, .int .i64 ha, .int .i64 ne, .int .i64 lo, .int .i64 hi, .bool up, .int .i64 st] 33 (0, 0))).heap.size = w.heap.size + 1 := by simp
  rw [hsz] at hQ0
  have hB0 := bel2 w (.cells #[.int .i64 la, .int .i64 dy, .int .i64 mi, .slice A n cap, .int .i64 e1, .int .i64 n1, .int .i64 fe, .int .i64 fn, .int .i64 fu, .int .i64 ho, .int .i64 ha, .int .i64 ne, .int .i64 lo, .int .i64 hi, .bool up, .int .i64 st] 33 (0, 0)) (.cells #[.int .i64 0, .int .i64 0, .int .i64 0, .slice none 0 0, .int .i64 0, .int .i64 0, .int .i64 0, .int .i64 0, .int .i64 0, .int .i64 0, .int .i64 0, .int .i64 0, .int .i64 0, .int .i64 0, .bool false, .int .i64 0] 33 (0, 0))
  have hA0 := h0.next hB0
  have hzz : ((w.alloc (.cells #[.int .i64 la, .int .i64 dy, .int .i64 mi, .slice A n cap, .int .i64 e1, .int .i64 n1, .int .i64 fe, .int .i64 fn, .int .i64 fu, .int .i64 ho, .int .i64 ha, .int .i64 ne, .int .i64 lo, .int .i64 hi, .bool up, .int .i64 st] 33 (0, 0))).alloc (.cells #[.int .i64 0, .int .i64 0, .int .i64 0, .slice none 0 0, .int .i64 0, .int .i64 0, .int .i64 0, .int .i64 0, .int .i64 0, .int .i64 0, .int .i64 0, .int .i64 0, .int .i64 0, .int .i64 0, .bool false, .int .i64 0] 33 (0, 0))).heap.size = w.heap.size + 1 + 1 := by simp
  generalize hwa : (w.alloc (.cells #[.int .i64 la, .int .i64 dy, .int .i64 mi, .slice A n cap, .int .i64 e1, .int .i64 n1, .int .i64 fe, .int .i64 fn, .int .i64 fu, .int .i64 ho, .int .i64 ha, .int .i64 ne, .int .i64 lo, .int .i64 hi, .bool up, .int .i64 st] 33 (0, 0))).alloc (.cells #[.int .i64 0, .int .i64 0, .int .i64 0, .slice none 0 0, .int .i64 0, .int .i64 0, .int .i64 0, .int .i64 0, .int .i64 0, .int .i64 0, .int .i64 0, .int .i64 0, .int .i64 0, .int .i64 0, .bool false, .int .i64 0] 33 (0, 0)) = wa at hP0 hQ0 hzz hB0 hA0
  go_enter Tryz.func23, Tryz.ntmps23
  go_wp2_with (refine wpList_load_row rfl 33 _ rfl _ rfl _ _ (0, 0) _ hP0 Tryz.underlying33 rfl (by kernel_rfl) ?_)
  refine (sSV10_is la dy mi e1 n1 fe fn fu ho ha ne lo hi st up A cap xs _ HN.out hA0 hl HB.out).mono ?_; rintro E w1 ⟨rfl, hw1⟩
  have hP1 := blk_next hP0 hw1
  have hQ1 := blk_next hQ0 hw1
  have hB1 := bel_next hB0 hw1
  have hA1 := h0.next hB1
  clear hP0 hQ0 hA0
  obtain ⟨cQ0, cQ1, cQ2, cQ3, cQ4, cQ5, cQ6, cQ7, cQ8, cQ9, cQ10, cQ11, cQ12, cQ13, cQ14, cQ15, fQ0, fQ1, fQ2, fQ3, fQ4, fQ5, fQ6, fQ7, fQ8, fQ9, fQ10, fQ11, fQ12, fQ13, fQ14, fQ15, zQ⟩ := blk16 hQ1
  go_wp2_with fail
  have hO1 : SOwn encBlock w1 w.heap.size 40 none 0 [] := SOwn.nil _ _ _
  have hQ9 := blk16_put (y0 := .int .i64 0) (y1 := .int .i64 0) (y2 := .int .i64 0) (y3 := .slice none 0 0) (y4 := .int .i64 0) (y5 := .int .i64 0) (y6 := .int .i64 0) (y7 := .int .i64 0) (y8 := .int .i64 0) (y9 := .int .i64 0) (y10 := .int .i64 0) (y11 := .int .i64 0) (y12 := .int .i64 0) (y13 := .int .i64 0) (y14 := .bool false) (y15 := .int .i64 0) hQ1
  have hO9 := SOwn.far16 hO1 hQ1 (by decide) (.int .i64 0) (.int .i64 0) (.int .i64 0) (.slice none 0 0) (.int .i64 0) (.int .i64 0) (.int .i64 0) (.int .i64 0) (.int .i64 0) (.int .i64 0) (.int .i64 0) (.int .i64 0) (.int .i64 0) (.int .i64 0) (.bool false) (.int .i64 0)
  have hB9 := store16_bel (C := (w.heap.size + 1)) hB1 (by omega) (.int .i64 0) (.int .i64 0) (.int .i64 0) (.slice none 0 0) (.int .i64 0) (.int .i64 0) (.int .i64 0) (.int .i64 0) (.int .i64 0) (.int .i64 0) (.int .i64 0) (.int .i64 0) (.int .i64 0) (.int .i64 0) (.bool false) (.int .i64 0)
  exact bodyPost_ret (v := .agg #[.int .i64 0, .int .i64 0, .int .i64 0, .slice none 0 0, .int .i64 0, .int .i64 0, .int .i64 0, .int .i64 0, .int .i64 0, .int .i64 0, .int .i64 0, .int .i64 0, .int .i64 0, .int .i64 0, .bool false, .int .i64 0]) (results_cell_row Tryz.results23 _ _ _ _ _ (0, 0) _ rfl hQ9 Tryz.underlying33 rfl (by kernel_rfl)) rfl ⟨none, 0, rfl, hO9, hB9⟩
set_option maxRecDepth 100000 in
set_option maxHeartbeats 4000000 in
theorem sST_mid (la dy mi e1 n1 fe fn fu ho ha ne lo hi st : Int) (up : Bool) (A : Option Addr) (cap : Nat) (xs : List VBlock) {g r x t : Int} {u : Bool} {n : Nat} (w : World) (hn : xs.length = n) (h : SRow encBlock w A xs) (hl : n ≤ 2000000) (hb : siB la dy mi e1 n1 fe fn fu ho ha ne lo hi st xs = true) (hm : ¬ mi + 15 = 1440) (hg : gxI la e1 n1 fe fn fu xs (tkD dy mi) (tkM mi) = g) (hr : stS ho ha (g, ne) = r) (hx : lxI la e1 n1 xs (tkD dy mi) (tkM mi) = x) (hu : psS up st lo hi 2 x = u) (ht : psT up st lo hi 2 x = t) :
    Calls Tryz.prog 23 #[.agg #[.int .i64 la, .int .i64 dy, .int .i64 mi, .slice A n cap, .int .i64 e1, .int .i64 n1, .int .i64 fe, .int .i64 fn, .int .i64 fu, .int .i64 ho, .int .i64 ha, .int .i64 ne, .int .i64 lo, .int .i64 hi, .bool up, .int .i64 st]] w (CopyB la (tkD dy mi) (tkM mi) e1 n1 fe fn fu ho r ne lo hi t u xs w) := by
  have hv := siB_iff.1 hb
  obtain ⟨v1, v2, v3, v4, v5, v6, v7, v8, v9, v10, v11, v12⟩ := hv
  have hpb : psB st lo hi 2 = true := psB_iff.2 ⟨v12, v11, by omega⟩
  have ht1 := siB_time hb
  have ht2 := siB_has (g := (g, ne)) ht1
  rw [hr] at ht2
  have em := (tkM_mid v3.1 v3.2 hm).1
  have ed := tkD_mid (dy := dy) v3.1 v3.2 hm
  have hwm : (mi + 15) % 1440 = mi + 15 := by omega
  have hne0 : ¬ mi + 15 = 0 := by omega
  rw [em, ed] at hg hx ht1 ht2
  have hg9 := (gnI_yes ht1).trans hg
  have hx9 := (lgI_yes ht2).trans hx
  have hgb := gxI_bd la e1 n1 fe fn fu xs dy (mi + 15)
  rw [hg] at hgb
  obtain ⟨g0, g1⟩ := hgb
  have hu9 : pqS up st lo hi 2 x = u := by rw [← hu]; exact (pq_yes hpb).1
  have ht9 : pqT up st lo hi 2 x = t := by rw [← ht]; exact (pq_yes hpb).2
  rw [em, ed]
  have HB := Lib.hid hb
  have HG := Lib.hid hg9
  have HX := Lib.hid hx9
  have HU := Lib.hid hu9
  have HT := Lib.hid ht9
  have HR := Lib.hid hr
  clear hb hg hx hr hu ht hg9 hx9 hu9 ht9 ht1 ht2 hpb v1 v4 v5 v6 v7 v11 v12 em ed
  have HN := Lib.hid hn
  have h0 := h
  clear hn h
  have hP0 := blk_old (blk_new w (.cells #[.int .i64 la, .int .i64 dy, .int .i64 mi, .slice A n cap, .int .i64 e1, .int .i64 n1, .int .i64 fe, .int .i64 fn, .int .i64 fu, .int .i64 ho, .int .i64 ha, .int .i64 ne, .int .i64 lo, .int .i64 hi, .bool up, .int .i64 st] 33 (0, 0))) (.cells #[.int .i64 0, .int .i64 0, .int .i64 0, .slice none 0 0, .int .i64 0, .int .i64 0, .int .i64 0, .int .i64 0, .int .i64 0, .int .i64 0, .int .i64 0, .int .i64 0, .int .i64 0, .int .i64 0, .bool false, .int .i64 0] 33 (0, 0))
  have hQ0 := blk_new (w.alloc (.cells #[.int .i64 la, .int .i64 dy, .int .i64 mi, .slice A n cap, .int .i64 e1, .int .i64 n1, .int .i64 fe, .int .i64 fn, .int .i64 fu, .int .i64 ho, .int .i64 ha, .int .i64 ne, .int .i64 lo, .int .i64 hi, .bool up, .int .i64 st] 33 (0, 0))) (.cells #[.int .i64 0, .int .i64 0, .int .i64 0, .slice none 0 0, .int .i64 0, .int .i64 0, .int .i64 0, .int .i64 0, .int .i64 0, .int .i64 0, .int .i64 0, .int .i64 0, .int .i64 0, .int .i64 0, .bool false, .int .i64 0] 33 (0, 0))
  have hsz : (w.alloc (.cells #[.int .i64 la, .int .i64 dy, .int .i64 mi, .slice A n cap, .int .i64 e1, .int .i64 n1, .int .i64 fe, .int .i64 fn, .int .i64 fu, .int .i64 ho, .int .i64 ha, .int .i64 ne, .int .i64 lo, .int .i64 hi, .bool up, .int .i64 st] 33 (0, 0))).heap.size = w.heap.size + 1 := by simp
  rw [hsz] at hQ0
  have hB0 := bel2 w (.cells #[.int .i64 la, .int .i64 dy, .int .i64 mi, .slice A n cap, .int .i64 e1, .int .i64 n1, .int .i64 fe, .int .i64 fn, .int .i64 fu, .int .i64 ho, .int .i64 ha, .int .i64 ne, .int .i64 lo, .int .i64 hi, .bool up, .int .i64 st] 33 (0, 0)) (.cells #[.int .i64 0, .int .i64 0, .int .i64 0, .slice none 0 0, .int .i64 0, .int .i64 0, .int .i64 0, .int .i64 0, .int .i64 0, .int .i64 0, .int .i64 0, .int .i64 0, .int .i64 0, .int .i64 0, .bool false, .int .i64 0] 33 (0, 0))
  have hA0 := h0.next hB0
  have hzz : ((w.alloc (.cells #[.int .i64 la, .int .i64 dy, .int .i64 mi, .slice A n cap, .int .i64 e1, .int .i64 n1, .int .i64 fe, .int .i64 fn, .int .i64 fu, .int .i64 ho, .int .i64 ha, .int .i64 ne, .int .i64 lo, .int .i64 hi, .bool up, .int .i64 st] 33 (0, 0))).alloc (.cells #[.int .i64 0, .int .i64 0, .int .i64 0, .slice none 0 0, .int .i64 0, .int .i64 0, .int .i64 0, .int .i64 0, .int .i64 0, .int .i64 0, .int .i64 0, .int .i64 0, .int .i64 0, .int .i64 0, .bool false, .int .i64 0] 33 (0, 0))).heap.size = w.heap.size + 1 + 1 := by simp
  generalize hwa : (w.alloc (.cells #[.int .i64 la, .int .i64 dy, .int .i64 mi, .slice A n cap, .int .i64 e1, .int .i64 n1, .int .i64 fe, .int .i64 fn, .int .i64 fu, .int .i64 ho, .int .i64 ha, .int .i64 ne, .int .i64 lo, .int .i64 hi, .bool up, .int .i64 st] 33 (0, 0))).alloc (.cells #[.int .i64 0, .int .i64 0, .int .i64 0, .slice none 0 0, .int .i64 0, .int .i64 0, .int .i64 0, .int .i64 0, .int .i64 0, .int .i64 0, .int .i64 0, .int .i64 0, .int .i64 0, .int .i64 0, .bool false, .int .i64 0] 33 (0, 0)) = wa at hP0 hQ0 hzz hB0 hA0
  go_enter Tryz.func23, Tryz.ntmps23
  go_wp2_with (refine wpList_load_row rfl 33 _ rfl _ rfl _ _ (0, 0) _ hP0 Tryz.underlying33 rfl (by kernel_rfl) ?_)
  refine (sSV10_is la dy mi e1 n1 fe fn fu ho ha ne lo hi st up A cap xs _ HN.out hA0 hl HB.out).mono ?_; rintro E w1 ⟨rfl, hw1⟩
  have hP1 := blk_next hP0 hw1
  have hQ1 := blk_next hQ0 hw1
  have hB1 := bel_next hB0 hw1
  have hA1 := h0.next hB1
  clear hP0 hQ0 hA0
  go_wp2_with (refine wpList_load_row rfl 33 _ rfl _ rfl _ _ (0, 0) _ hP1 Tryz.underlying33 rfl (by kernel_rfl) ?_)
  refine (sCopy_is la dy mi e1 n1 fe fn fu ho ha ne lo hi st up A cap xs _ HN.out hA1 hl).mono ?_; rintro E w2 ⟨A2, cp2, rfl, hO2, hw2⟩
  rw [HN.out]
  have hP2 := blk_next hP1 hw2
  have hQ2 := blk_next hQ1 hw2
  have hB2 := bel_next hB1 hw2
  have hO2 := SOwn.mono (base' := w.heap.size) hO2 hB1.size
  clear hP1 hQ1 hB1 hA1
  obtain ⟨cP0, cP1, cP2, cP3, cP4, cP5, cP6, cP7, cP8, cP9, cP10, cP11, cP12, cP13, cP14, cP15, fP0, fP1, fP2, fP3, fP4, fP5, fP6, fP7, fP8, fP9, fP10, fP11, fP12, fP13, fP14, fP15, zP⟩ := blk16 hP2
  have hR3 := blk_new w2 (.cells #[.int .i64 la, .int .i64 dy, .int .i64 (mi + 15), .slice A2 n cp2, .int .i64 e1, .int .i64 n1, .int .i64 fe, .int .i64 fn, .int .i64 fu, .int .i64 ho, .int .i64 ha, .int .i64 ne, .int .i64 lo, .int .i64 hi, .bool up, .int .i64 st] 33 (0, 0))
  have hP3 := blk_old hP2 (.cells #[.int .i64 la, .int .i64 dy, .int .i64 (mi + 15), .slice A2 n cp2, .int .i64 e1, .int .i64 n1, .int .i64 fe, .int .i64 fn, .int .i64 fu, .int .i64 ho, .int .i64 ha, .int .i64 ne, .int .i64 lo, .int .i64 hi, .bool up, .int .i64 st] 33 (0, 0))
  have hQ3 := blk_old hQ2 (.cells #[.int .i64 la, .int .i64 dy, .int .i64 (mi + 15), .slice A2 n cp2, .int .i64 e1, .int .i64 n1, .int .i64 fe, .int .i64 fn, .int .i64 fu, .int .i64 ho, .int .i64 ha, .int .i64 ne, .int .i64 lo, .int .i64 hi, .bool up, .int .i64 st] 33 (0, 0))
  have hB3 := hB2.alloc hB2.size (.cells #[.int .i64 la, .int .i64 dy, .int .i64 (mi + 15), .slice A2 n cp2, .int .i64 e1, .int .i64 n1, .int .i64 fe, .int .i64 fn, .int .i64 fu, .int .i64 ho, .int .i64 ha, .int .i64 ne, .int .i64 lo, .int .i64 hi, .bool up, .int .i64 st] 33 (0, 0))
  have hO3 := hO2.alloc (.cells #[.int .i64 la, .int .i64 dy, .int .i64 (mi + 15), .slice A2 n cp2, .int .i64 e1, .int .i64 n1, .int .i64 fe, .int .i64 fn, .int .i64 fu, .int .i64 ho, .int .i64 ha, .int .i64 ne, .int .i64 lo, .int .i64 hi, .bool up, .int .i64 st] 33 (0, 0))
  have hzQ := blk_lt hQ2
  go_wp2_with fail
  clear cP0 fP0 cP1 fP1 cP2 fP2 cP3 fP3 cP4 fP4 cP5 fP5 cP6 fP6 cP7 fP7 cP8 fP8 cP9 fP9 cP10 fP10 cP11 fP11 cP12 fP12 cP13 fP13 cP14 fP14 cP15 fP15 hP2 hQ2 hO2
  generalize hbR : w2.heap.size = bR at hR3 hzQ
  generalize w2.alloc (.cells #[.int .i64 la, .int .i64 dy, .int .i64 (mi + 15), .slice A2 n cp2, .int .i64 e1, .int .i64 n1, .int .i64 fe, .int .i64 fn, .int .i64 fu, .int .i64 ho, .int .i64 ha, .int .i64 ne, .int .i64 lo, .int .i64 hi, .bool up, .int .i64 st] 33 (0, 0)) = w3 at hR3 hP3 hQ3 hB3 hO3
  refine wp_region_held_drew (S := (fun w' => w'.heap[w.heap.size]? = some (.cells #[.int .i64 la, .int .i64 dy, .int .i64 mi, .slice A n cap, .int .i64 e1, .int .i64 n1, .int .i64 fe, .int .i64 fn, .int .i64 fu, .int .i64 ho, .int .i64 ha, .int .i64 ne, .int .i64 lo, .int .i64 hi, .bool up, .int .i64 st] 33 (0, 0)) ∧ w'.heap[w.heap.size + 1]? = some (.cells #[.int .i64 0, .int .i64 0, .int .i64 0, .slice none 0 0, .int .i64 0, .int .i64 0, .int .i64 0, .int .i64 0, .int .i64 0, .int .i64 0, .int .i64 0, .int .i64 0, .int .i64 0, .int .i64 0, .bool false, .int .i64 0] 33 (0, 0)) ∧ Below w.heap.size w w')) (by kernel_rfl) ⟨blk_drwE hP3, blk_drwE hQ3, hB3.drew⟩ (fun hHeld => ?_)
  have hR4 := blk_drwE hR3
  have hO4 := hO3.drew
  clear hR3 hP3 hQ3 hB3 hO3
  refine wpAnyH_take (i := 0) (oi := _) (v := ?_) rfl (by kernel_rfl) (by kernel_rfl) (by kernel_rfl) (fun _ _ _ h => h) (Or.inl ⟨by rfl, ?_⟩) (by assumption) ?_
  (rotate_left); (focus (intro wv hSw; go_simp; (try with_reducible rfl)))
  try simp only [Act.put, List.getElem_toArray, List.getElem_cons_succ, List.getElem_cons_zero, List.setIfInBounds_toArray, List.set_cons_zero, List.set_cons_succ]
  refine wpAnyH_take (i := 1) (oi := _) (v := ?_) rfl (by kernel_rfl) (by kernel_rfl) (by kernel_rfl) (fun _ _ _ h => h) (Or.inl ⟨by rfl, ?_⟩) (by assumption) ?_
  (rotate_left); (focus (intro wv hSw; obtain ⟨qP, _, _⟩ := id hSw; obtain ⟨_, _, _, _, _, _, _, _, _, _, _, _, _, _, _, _, _, _, _, _, _, _, _, _, _, _, _, _, _, _, _, _, _⟩ := blk16 qP; go_simp; (try with_reducible rfl)))
  try simp only [Act.put, List.getElem_toArray, List.getElem_cons_succ, List.getElem_cons_zero, List.setIfInBounds_toArray, List.set_cons_zero, List.set_cons_succ]
  refine wpAnyH_take (i := 5) (oi := _) (v := ?_) rfl (by kernel_rfl) (by kernel_rfl) (by kernel_rfl) (fun _ _ _ h => h) (Or.inl ⟨by rfl, ?_⟩) (by assumption) ?_
  (rotate_left); (focus (intro wv hSw; go_simp; (try with_reducible rfl)))
  try simp only [Act.put, List.getElem_toArray, List.getElem_cons_succ, List.getElem_cons_zero, List.setIfInBounds_toArray, List.set_cons_zero, List.set_cons_succ]
  refine wpAnyH_take (i := 6) (oi := _) (v := ?_) rfl (by kernel_rfl) (by kernel_rfl) (by kernel_rfl) (fun _ _ _ h => h) (Or.inl ⟨by rfl, ?_⟩) (by assumption) ?_
  (rotate_left); (focus (intro wv hSw; obtain ⟨qP, _, _⟩ := id hSw; obtain ⟨_, _, _, _, _, _, _, _, _, _, _, _, _, _, _, _, _, _, _, _, _, _, _, _, _, _, _, _, _, _, _, _, _⟩ := blk16 qP; go_simp; (try with_reducible rfl)))
  try simp only [Act.put, List.getElem_toArray, List.getElem_cons_succ, List.getElem_cons_zero, List.setIfInBounds_toArray, List.set_cons_zero, List.set_cons_succ]
  refine wpAnyH_take (i := 9) (oi := _) (v := ?_) rfl (by kernel_rfl) (by kernel_rfl) (by kernel_rfl) (fun _ _ _ h => h) (Or.inl ⟨by rfl, ?_⟩) (by assumption) ?_
  (rotate_left); (focus (intro wv hSw; go_simp; (try with_reducible rfl)))
  try simp only [Act.put, List.getElem_toArray, List.getElem_cons_succ, List.getElem_cons_zero, List.setIfInBounds_toArray, List.set_cons_zero, List.set_cons_succ]
  refine wpAnyH_take (i := 10) (oi := _) (v := ?_) rfl (by kernel_rfl) (by kernel_rfl) (by kernel_rfl) (fun _ _ _ h => h) (Or.inl ⟨by rfl, ?_⟩) (by assumption) ?_
  (rotate_left); (focus (intro wv hSw; obtain ⟨qP, _, _⟩ := id hSw; obtain ⟨_, _, _, _, _, _, _, _, _, _, _, _, _, _, _, _, _, _, _, _, _, _, _, _, _, _, _, _, _, _, _, _, _⟩ := blk16 qP; go_simp; (try with_reducible rfl)))
  try simp only [Act.put, List.getElem_toArray, List.getElem_cons_succ, List.getElem_cons_zero, List.setIfInBounds_toArray, List.set_cons_zero, List.set_cons_succ]
  refine wpAnyH_ready (rs := [2]) (by kernel_rfl) (by simp) ?_
  refine AllReadyH.cons (o := _) rfl (fun K hK => ?_) (AllReadyH.nil)
  rw [if_pos (by kernel_rfl)]
  refine wp_load_row 33 _ rfl bR rfl _ _ (0, 0) _ hR4 Tryz.underlying33 rfl (by kernel_rfl) ?_
  refine hK.out _ _ (id hHeld) (fun hHeld => ?_)
  clear hK K
  try simp only [Act.put, List.getElem_toArray, List.getElem_cons_succ, List.getElem_cons_zero, List.setIfInBounds_toArray, List.set_cons_zero, List.set_cons_succ]
  refine wpAnyH_ready (rs := [3]) (by kernel_rfl) (by simp) ?_
  refine AllReadyH.cons (o := _) rfl (fun K hK => ?_) (AllReadyH.nil)
  go_simp
  (go_at_call 18; refine (sSG_is la dy (mi + 15) e1 n1 fe fn fu ho ha ne lo hi st up A2 cp2 xs _ HN.out hO4.row hl HG.out).mono ?_; rintro e x5 ⟨rfl, hw5⟩)
  refine hK.out _ _ ⟨blk_next hHeld.1 hw5, blk_next hHeld.2.1 hw5, bel_next hHeld.2.2 hw5⟩ (fun hHeld => ?_)
  clear hK K
  try simp only [Act.put, List.getElem_toArray, List.getElem_cons_succ, List.getElem_cons_zero, List.setIfInBounds_toArray, List.set_cons_zero, List.set_cons_succ]
  have hR5 := blk_next hR4 hw5
  have hO5 := hO4.next hw5
  clear hR4 hO4
  refine wpAnyH_take (i := 4) (oi := _) (v := ?_) rfl (by kernel_rfl) (by kernel_rfl) (by kernel_rfl) (fun _ _ _ h => h) (Or.inl ⟨by rfl, ?_⟩) (by assumption) ?_
  (rotate_left); (focus (intro wv hSw; go_simp; (try with_reducible rfl)))
  try simp only [Act.put, List.getElem_toArray, List.getElem_cons_succ, List.getElem_cons_zero, List.setIfInBounds_toArray, List.set_cons_zero, List.set_cons_succ]
  refine wpAnyH_take (i := 7) (oi := _) (v := ?_) rfl (by kernel_rfl) (by kernel_rfl) (by kernel_rfl) (fun _ _ _ h => h) (Or.inl ⟨by rfl, ?_⟩) (by assumption) ?_
  (rotate_left); (focus (intro wv hSw; go_simp; (try with_reducible rfl)))
  try simp only [Act.put, List.getElem_toArray, List.getElem_cons_succ, List.getElem_cons_zero, List.setIfInBounds_toArray, List.set_cons_zero, List.set_cons_succ]
  refine wpAnyH_take (i := 8) (oi := _) (v := ?_) rfl (by kernel_rfl) (by kernel_rfl) (by kernel_rfl) (fun _ _ _ h => h) (Or.inl ⟨by rfl, ?_⟩) (by assumption) ?_
  (rotate_left); (focus (intro wv hSw; go_simp; (try with_reducible rfl)))
  try simp only [Act.put, List.getElem_toArray, List.getElem_cons_succ, List.getElem_cons_zero, List.setIfInBounds_toArray, List.set_cons_zero, List.set_cons_succ]
  refine wpAnyH_take (i := 11) (oi := _) (v := ?_) rfl (by kernel_rfl) (by kernel_rfl) (by kernel_rfl) (fun _ _ _ h => h) (Or.inl ⟨by rfl, ?_⟩) (by assumption) ?_
  (rotate_left); (focus (intro wv hSw; go_simp; (try with_reducible rfl)))
  try simp only [Act.put, List.getElem_toArray, List.getElem_cons_succ, List.getElem_cons_zero, List.setIfInBounds_toArray, List.set_cons_zero, List.set_cons_succ]
  refine wpAnyH_take (i := 12) (oi := _) (v := ?_) rfl (by kernel_rfl) (by kernel_rfl) (by kernel_rfl) (fun _ _ _ h => h) (Or.inl ⟨by rfl, ?_⟩) (by assumption) ?_
  (rotate_left); (focus (intro wv hSw; go_simp; (try with_reducible rfl)))
  try simp only [Act.put, List.getElem_toArray, List.getElem_cons_succ, List.getElem_cons_zero, List.setIfInBounds_toArray, List.set_cons_zero, List.set_cons_succ]
  have hw81 : IntKind.i64.wrap (ha + g) = ha + g := IntWalk.i64_in _ (by omega)
  have hw82 : IntKind.i64.wrap (ha + g - ne) = ha + g - ne := IntWalk.i64_in _ (by omega)
  have hval : (if ho < if IntKind.i64.wrap (IntKind.i64.wrap (ha + g) - ne) < 0 then 0 else IntKind.i64.wrap (IntKind.i64.wrap (ha + g) - ne) then ho else if IntKind.i64.wrap (IntKind.i64.wrap (ha + g) - ne) < 0 then 0 else IntKind.i64.wrap (IntKind.i64.wrap (ha + g) - ne)) = r := by rw [hw81, hw82, ← HR.out]; unfold stS; dsimp only; split <;> split at * <;> omega
  rw [hval]
  generalize (if IntKind.i64.wrap (IntKind.i64.wrap (ha + g) - ne) < 0 then (0 : Int) else IntKind.i64.wrap (IntKind.i64.wrap (ha + g) - ne)) = q9
  clear hval hw81 hw82
  obtain ⟨cR0, cR1, cR2, cR3, cR4, cR5, cR6, cR7, cR8, cR9, cR10, cR11, cR12, cR13, cR14, cR15, fR0, fR1, fR2, fR3, fR4, fR5, fR6, fR7, fR8, fR9, fR10, fR11, fR12, fR13, fR14, fR15, zR⟩ := blk16 hR5
  refine wpAnyH_ready (rs := [13]) (by kernel_rfl) (by simp) ?_
  refine AllReadyH.cons (o := _) rfl (fun K hK => ?_) (AllReadyH.nil)
  go_simp
  refine hK.out _ _ ⟨(blk_far (C := bR) (i := 10) hHeld.1 (by omega) (.int .i64 r)), (blk_far (C := bR) (i := 10) hHeld.2.1 (by omega) (.int .i64 r)), hHeld.2.2.setCell (p := ⟨bR, 10, none⟩) (by show _ ≤ bR; omega) (.int .i64 r)⟩ (fun hHeld => ?_)
  clear hK K
  try simp only [Act.put, List.getElem_toArray, List.getElem_cons_succ, List.getElem_cons_zero, List.setIfInBounds_toArray, List.set_cons_zero, List.set_cons_succ]
  have hR6 := blk16_at10 (v := .int .i64 r) hR5
  have hO6 := SOwn.boxE (i := 10) hO5 hR5 (by decide) (.int .i64 r)
  clear hR5 hO5 cR0 fR0 cR1 fR1 cR2 fR2 cR3 fR3 cR4 fR4 cR5 fR5 cR6 fR6 cR7 fR7 cR8 fR8 cR9 fR9 cR10 fR10 cR11 fR11 cR12 fR12 cR13 fR13 cR14 fR14 cR15 fR15
  refine wpAnyH_done (by kernel_rfl) ?_ _
  generalize World.setCell x5 ⟨bR, 10, none⟩ (.int .i64 r) = w6 at hHeld hR6 hO6 ⊢
  obtain ⟨hP6, hQ6, hB6⟩ := hHeld
  go_wp2_with fail
  refine wp_region_held_drew (S := (fun w' => w'.heap[w.heap.size]? = some (.cells #[.int .i64 la, .int .i64 dy, .int .i64 mi, .slice A n cap, .int .i64 e1, .int .i64 n1, .int .i64 fe, .int .i64 fn, .int .i64 fu, .int .i64 ho, .int .i64 ha, .int .i64 ne, .int .i64 lo, .int .i64 hi, .bool up, .int .i64 st] 33 (0, 0)) ∧ w'.heap[w.heap.size + 1]? = some (.cells #[.int .i64 0, .int .i64 0, .int .i64 0, .slice none 0 0, .int .i64 0, .int .i64 0, .int .i64 0, .int .i64 0, .int .i64 0, .int .i64 0, .int .i64 0, .int .i64 0, .int .i64 0, .int .i64 0, .bool false, .int .i64 0] 33 (0, 0)) ∧ Below w.heap.size w w')) (by kernel_rfl) ⟨blk_drwE hP6, blk_drwE hQ6, hB6.drew⟩ (fun hHeld => ?_)
  have hR7 := blk_drwE hR6
  have hO7 := hO6.drew
  clear hR6 hP6 hQ6 hB6 hO6
  refine wpAnyH_take (i := 0) (oi := _) (v := ?_) rfl (by kernel_rfl) (by kernel_rfl) (by kernel_rfl) (fun _ _ _ h => h) (Or.inl ⟨by rfl, ?_⟩) (by assumption) ?_
  (rotate_left); (focus (intro wv hSw; go_simp; (try with_reducible rfl)))
  try simp only [Act.put, List.getElem_toArray, List.getElem_cons_succ, List.getElem_cons_zero, List.setIfInBounds_toArray, List.set_cons_zero, List.set_cons_succ]
  refine wpAnyH_take (i := 1) (oi := _) (v := ?_) rfl (by kernel_rfl) (by kernel_rfl) (by kernel_rfl) (fun _ _ _ h => h) (Or.inl ⟨by rfl, ?_⟩) (by assumption) ?_
  (rotate_left); (focus (intro wv hSw; obtain ⟨qP, _, _⟩ := id hSw; obtain ⟨_, _, _, _, _, _, _, _, _, _, _, _, _, _, _, _, _, _, _, _, _, _, _, _, _, _, _, _, _, _, _, _, _⟩ := blk16 qP; go_simp; (try with_reducible rfl)))
  try simp only [Act.put, List.getElem_toArray, List.getElem_cons_succ, List.getElem_cons_zero, List.setIfInBounds_toArray, List.set_cons_zero, List.set_cons_succ]
  refine wpAnyH_take (i := 2) (oi := _) (v := ?_) rfl (by kernel_rfl) (by kernel_rfl) (by kernel_rfl) (fun _ _ _ h => h) (Or.inl ⟨by rfl, ?_⟩) (by assumption) ?_
  (rotate_left); (focus (intro wv hSw; go_simp; (try with_reducible rfl)))
  try simp only [Act.put, List.getElem_toArray, List.getElem_cons_succ, List.getElem_cons_zero, List.setIfInBounds_toArray, List.set_cons_zero, List.set_cons_succ]
  refine wpAnyH_take (i := 3) (oi := _) (v := ?_) rfl (by kernel_rfl) (by kernel_rfl) (by kernel_rfl) (fun _ _ _ h => h) (Or.inl ⟨by rfl, ?_⟩) (by assumption) ?_
  (rotate_left); (focus (intro wv hSw; obtain ⟨qP, _, _⟩ := id hSw; obtain ⟨_, _, _, _, _, _, _, _, _, _, _, _, _, _, _, _, _, _, _, _, _, _, _, _, _, _, _, _, _, _, _, _, _⟩ := blk16 qP; go_simp; (try with_reducible rfl)))
  try simp only [Act.put, List.getElem_toArray, List.getElem_cons_succ, List.getElem_cons_zero, List.setIfInBounds_toArray, List.set_cons_zero, List.set_cons_succ]
  refine wpAnyH_ready (rs := [4]) (by kernel_rfl) (by simp) ?_
  refine AllReadyH.cons (o := _) rfl (fun K hK => ?_) (AllReadyH.nil)
  rw [if_pos (by kernel_rfl)]
  refine wp_load_row 33 _ rfl bR rfl _ _ (0, 0) _ hR7 Tryz.underlying33 rfl (by kernel_rfl) ?_
  refine hK.out _ _ (id hHeld) (fun hHeld => ?_)
  clear hK K
  try simp only [Act.put, List.getElem_toArray, List.getElem_cons_succ, List.getElem_cons_zero, List.setIfInBounds_toArray, List.set_cons_zero, List.set_cons_succ]
  refine wpAnyH_ready (rs := [5]) (by kernel_rfl) (by simp) ?_
  refine AllReadyH.cons (o := _) rfl (fun K hK => ?_) (AllReadyH.nil)
  go_simp
  (go_at_call 12; refine (sSL_is la dy (mi + 15) e1 n1 fe fn fu ho r ne lo hi st up A2 cp2 xs _ HN.out hO7.row hl HX.out).mono ?_; rintro e x8 ⟨rfl, hw8⟩)
  refine hK.out _ _ ⟨blk_next hHeld.1 hw8, blk_next hHeld.2.1 hw8, bel_next hHeld.2.2 hw8⟩ (fun hHeld => ?_)
  clear hK K
  try simp only [Act.put, List.getElem_toArray, List.getElem_cons_succ, List.getElem_cons_zero, List.setIfInBounds_toArray, List.set_cons_zero, List.set_cons_succ]
  have hR8 := blk_next hR7 hw8
  have hO8 := hO7.next hw8
  clear hR7 hO7
  refine wpAnyH_ready (rs := [6]) (by kernel_rfl) (by simp) ?_
  refine AllReadyH.cons (o := _) rfl (fun K hK => ?_) (AllReadyH.nil)
  go_simp
  (go_at_call 64; refine (sPs_is _ HU.out HT.out).mono ?_; rintro e x9 ⟨rfl, hw9⟩)
  refine hK.out _ _ ⟨blk_next hHeld.1 hw9, blk_next hHeld.2.1 hw9, bel_next hHeld.2.2 hw9⟩ (fun hHeld => ?_)
  clear hK K
  try simp only [Act.put, List.getElem_toArray, List.getElem_cons_succ, List.getElem_cons_zero, List.setIfInBounds_toArray, List.set_cons_zero, List.set_cons_succ]
  have hR9 := blk_next hR8 hw9
  have hO9 := hO8.next hw9
  clear hR8 hO8
  refine wpAnyH_take (i := 7) (oi := _) (v := ?_) rfl (by kernel_rfl) (by kernel_rfl) (by kernel_rfl) (fun _ _ _ h => h) (Or.inl ⟨by rfl, ?_⟩) (by assumption) ?_
  (rotate_left); (focus (intro wv hSw; go_simp; (try with_reducible rfl)))
  try simp only [Act.put, List.getElem_toArray, List.getElem_cons_succ, List.getElem_cons_zero, List.setIfInBounds_toArray, List.set_cons_zero, List.set_cons_succ]
  obtain ⟨cR0, cR1, cR2, cR3, cR4, cR5, cR6, cR7, cR8, cR9, cR10, cR11, cR12, cR13, cR14, cR15, fR0, fR1, fR2, fR3, fR4, fR5, fR6, fR7, fR8, fR9, fR10, fR11, fR12, fR13, fR14, fR15, zR⟩ := blk16 hR9
  refine wpAnyH_ready (rs := [8]) (by kernel_rfl) (by simp) ?_
  refine AllReadyH.cons (o := _) rfl (fun K hK => ?_) (AllReadyH.nil)
  go_simp
  refine hK.out _ _ ⟨(blk_far (C := bR) (i := 15) (blk_far (C := bR) (i := 14) hHeld.1 (by omega) (.bool u)) (by omega) (.int .i64 t)), (blk_far (C := bR) (i := 15) (blk_far (C := bR) (i := 14) hHeld.2.1 (by omega) (.bool u)) (by omega) (.int .i64 t)), (hHeld.2.2.setCell (p := ⟨bR, 14, none⟩) (by show _ ≤ bR; omega) (.bool u)).setCell (p := ⟨bR, 15, none⟩) (by show _ ≤ bR; omega) (.int .i64 t)⟩ (fun hHeld => ?_)
  clear hK K
  try simp only [Act.put, List.getElem_toArray, List.getElem_cons_succ, List.getElem_cons_zero, List.setIfInBounds_toArray, List.set_cons_zero, List.set_cons_succ]
  have hR10 := blk16_at15 (v := .int .i64 t) (blk16_at14 (v := .bool u) hR9)
  have hO10 := SOwn.boxE (i := 15) (SOwn.boxE (i := 14) hO9 hR9 (by decide) (.bool u)) (blk16_at14 (v := .bool u) hR9) (by decide) (.int .i64 t)
  clear hR9 hO9 cR0 fR0 cR1 fR1 cR2 fR2 cR3 fR3 cR4 fR4 cR5 fR5 cR6 fR6 cR7 fR7 cR8 fR8 cR9 fR9 cR10 fR10 cR11 fR11 cR12 fR12 cR13 fR13 cR14 fR14 cR15 fR15
  refine wpAnyH_done (by kernel_rfl) ?_ _
  generalize World.setCell (World.setCell x9 ⟨bR, 14, none⟩ (.bool u)) ⟨bR, 15, none⟩ (.int .i64 t) = w10 at hHeld hR10 hO10 ⊢
  obtain ⟨hP10, hQ10, hB10⟩ := hHeld
  obtain ⟨cQ0, cQ1, cQ2, cQ3, cQ4, cQ5, cQ6, cQ7, cQ8, cQ9, cQ10, cQ11, cQ12, cQ13, cQ14, cQ15, fQ0, fQ1, fQ2, fQ3, fQ4, fQ5, fQ6, fQ7, fQ8, fQ9, fQ10, fQ11, fQ12, fQ13, fQ14, fQ15, zQ⟩ := blk16 hQ10
  go_wp2_with (refine wpList_load_row rfl 33 _ rfl _ rfl _ _ (0, 0) _ hR10 Tryz.underlying33 rfl (by kernel_rfl) ?_)
  have hQ9 := blk16_put (y0 := .int .i64 la) (y1 := .int .i64 dy) (y2 := .int .i64 (mi + 15)) (y3 := .slice A2 n cp2) (y4 := .int .i64 e1) (y5 := .int .i64 n1) (y6 := .int .i64 fe) (y7 := .int .i64 fn) (y8 := .int .i64 fu) (y9 := .int .i64 ho) (y10 := .int .i64 r) (y11 := .int .i64 ne) (y12 := .int .i64 lo) (y13 := .int .i64 hi) (y14 := .bool u) (y15 := .int .i64 t) hQ10
  have hO9 := SOwn.far16 hO10 hQ10 (by decide) (.int .i64 la) (.int .i64 dy) (.int .i64 (mi + 15)) (.slice A2 n cp2) (.int .i64 e1) (.int .i64 n1) (.int .i64 fe) (.int .i64 fn) (.int .i64 fu) (.int .i64 ho) (.int .i64 r) (.int .i64 ne) (.int .i64 lo) (.int .i64 hi) (.bool u) (.int .i64 t)
  have hB9 := store16_bel (C := (w.heap.size + 1)) hB10 (by omega) (.int .i64 la) (.int .i64 dy) (.int .i64 (mi + 15)) (.slice A2 n cp2) (.int .i64 e1) (.int .i64 n1) (.int .i64 fe) (.int .i64 fn) (.int .i64 fu) (.int .i64 ho) (.int .i64 r) (.int .i64 ne) (.int .i64 lo) (.int .i64 hi) (.bool u) (.int .i64 t)
  exact bodyPost_ret (v := .agg #[.int .i64 la, .int .i64 dy, .int .i64 (mi + 15), .slice A2 n cp2, .int .i64 e1, .int .i64 n1, .int .i64 fe, .int .i64 fn, .int .i64 fu, .int .i64 ho, .int .i64 r, .int .i64 ne, .int .i64 lo, .int .i64 hi, .bool u, .int .i64 t]) (results_cell_row Tryz.results23 _ _ _ _ _ (0, 0) _ rfl hQ9 Tryz.underlying33 rfl (by kernel_rfl)) rfl ⟨A2, cp2, by rw [HN.out], hO9, hB9⟩
set_option maxRecDepth 100000 in
set_option maxHeartbeats 4000000 in
theorem sST_end (la dy mi e1 n1 fe fn fu ho ha ne lo hi st : Int) (up : Bool) (A : Option Addr) (cap : Nat) (xs : List VBlock) {g r x t : Int} {u : Bool} {n : Nat} (w : World) (hn : xs.length = n) (h : SRow encBlock w A xs) (hl : n ≤ 2000000) (hb : siB la dy mi e1 n1 fe fn fu ho ha ne lo hi st xs = true) (hm : mi + 15 = 1440) (hg : gxI la e1 n1 fe fn fu xs (tkD dy mi) (tkM mi) = g) (hr : stS ho ha (g, ne) = r) (hx : lxI la e1 n1 xs (tkD dy mi) (tkM mi) = x) (hu : psS up st lo hi 2 x = u) (ht : psT up st lo hi 2 x = t) :
    Calls Tryz.prog 23 #[.agg #[.int .i64 la, .int .i64 dy, .int .i64 mi, .slice A n cap, .int .i64 e1, .int .i64 n1, .int .i64 fe, .int .i64 fn, .int .i64 fu, .int .i64 ho, .int .i64 ha, .int .i64 ne, .int .i64 lo, .int .i64 hi, .bool up, .int .i64 st]] w (CopyB la (tkD dy mi) (tkM mi) e1 n1 fe fn fu ho r ne lo hi t u xs w) := by
  have hv := siB_iff.1 hb
  obtain ⟨v1, v2, v3, v4, v5, v6, v7, v8, v9, v10, v11, v12⟩ := hv
  have hpb : psB st lo hi 2 = true := psB_iff.2 ⟨v12, v11, by omega⟩
  have ht1 := siB_time hb
  have ht2 := siB_has (g := (g, ne)) ht1
  rw [hr] at ht2
  have em := tkM_end hm
  have ed := tkD_endE hm v2.1
  have hwm : (mi + 15) % 1440 = 0 := by omega
  have hdm : 0 ≤ dy % 365 ∧ dy % 365 ≤ 364 := by omega
  rw [em, ed] at hg hx ht1 ht2
  have hg9 := (gnI_yes ht1).trans hg
  have hx9 := (lgI_yes ht2).trans hx
  have hgb := gxI_bd la e1 n1 fe fn fu xs (dy % 365 + 1) 0
  rw [hg] at hgb
  obtain ⟨g0, g1⟩ := hgb
  have hu9 : pqS up st lo hi 2 x = u := by rw [← hu]; exact (pq_yes hpb).1
  have ht9 : pqT up st lo hi 2 x = t := by rw [← ht]; exact (pq_yes hpb).2
  rw [em, ed]
  have HB := Lib.hid hb
  have HG := Lib.hid hg9
  have HX := Lib.hid hx9
  have HU := Lib.hid hu9
  have HT := Lib.hid ht9
  have HR := Lib.hid hr
  clear hb hg hx hr hu ht hg9 hx9 hu9 ht9 ht1 ht2 hpb v1 v4 v5 v6 v7 v11 v12 em ed
  have HN := Lib.hid hn
  have h0 := h
  clear hn h
  have hP0 := blk_old (blk_new w (.cells #[.int .i64 la, .int .i64 dy, .int .i64 mi, .slice A n cap, .int .i64 e1, .int .i64 n1, .int .i64 fe, .int .i64 fn, .int .i64 fu, .int .i64 ho, .int .i64 ha, .int .i64 ne, .int .i64 lo, .int .i64 hi, .bool up, .int .i64 st] 33 (0, 0))) (.cells #[.int .i64 0, .int .i64 0, .int .i64 0, .slice none 0 0, .int .i64 0, .int .i64 0, .int .i64 0, .int .i64 0, .int .i64 0, .int .i64 0, .int .i64 0, .int .i64 0, .int .i64 0, .int .i64 0, .bool false, .int .i64 0] 33 (0, 0))
  have hQ0 := blk_new (w.alloc (.cells #[.int .i64 la, .int .i64 dy, .int .i64 mi, .slice A n cap, .int .i64 e1, .int .i64 n1, .int .i64 fe, .int .i64 fn, .int .i64 fu, .int .i64 ho, .int .i64 ha, .int .i64 ne, .int .i64 lo, .int .i64 hi, .bool up, .int .i64 st] 33 (0, 0))) (.cells #[.int .i64 0, .int .i64 0, .int .i64 0, .slice none 0 0, .int .i64 0, .int .i64 0, .int .i64 0, .int .i64 0, .int .i64 0, .int .i64 0, .int .i64 0, .int .i64 0, .int .i64 0, .int .i64 0, .bool false, .int .i64 0] 33 (0, 0))
  have hsz : (w.alloc (.cells #[.int .i64 la, .int .i64 dy, .int .i64 mi, .slice A n cap, .int .i64 e1, .int .i64 n1, .int .i64 fe, .int .i64 fn, .int .i64 fu, .int .i64 ho, .int .i64 ha, .int .i64 ne, .int .i64 lo, .int .i64 hi, .bool up, .int .i64 st] 33 (0, 0))).heap.size = w.heap.size + 1 := by simp
  rw [hsz] at hQ0
  have hB0 := bel2 w (.cells #[.int .i64 la, .int .i64 dy, .int .i64 mi, .slice A n cap, .int .i64 e1, .int .i64 n1, .int .i64 fe, .int .i64 fn, .int .i64 fu, .int .i64 ho, .int .i64 ha, .int .i64 ne, .int .i64 lo, .int .i64 hi, .bool up, .int .i64 st] 33 (0, 0)) (.cells #[.int .i64 0, .int .i64 0, .int .i64 0, .slice none 0 0, .int .i64 0, .int .i64 0, .int .i64 0, .int .i64 0, .int .i64 0, .int .i64 0, .int .i64 0, .int .i64 0, .int .i64 0, .int .i64 0, .bool false, .int .i64 0] 33 (0, 0))
  have hA0 := h0.next hB0
  have hzz : ((w.alloc (.cells #[.int .i64 la, .int .i64 dy, .int .i64 mi, .slice A n cap, .int .i64 e1, .int .i64 n1, .int .i64 fe, .int .i64 fn, .int .i64 fu, .int .i64 ho, .int .i64 ha, .int .i64 ne, .int .i64 lo, .int .i64 hi, .bool up, .int .i64 st] 33 (0, 0))).alloc (.cells #[.int .i64 0, .int .i64 0, .int .i64 0, .slice none 0 0, .int .i64 0, .int .i64 0, .int .i64 0, .int .i64 0, .int .i64 0, .int .i64 0, .int .i64 0, .int .i64 0, .int .i64 0, .int .i64 0, .bool false, .int .i64 0] 33 (0, 0))).heap.size = w.heap.size + 1 + 1 := by simp
  generalize hwa : (w.alloc (.cells #[.int .i64 la, .int .i64 dy, .int .i64 mi, .slice A n cap, .int .i64 e1, .int .i64 n1, .int .i64 fe, .int .i64 fn, .int .i64 fu, .int .i64 ho, .int .i64 ha, .int .i64 ne, .int .i64 lo, .int .i64 hi, .bool up, .int .i64 st] 33 (0, 0))).alloc (.cells #[.int .i64 0, .int .i64 0, .int .i64 0, .slice none 0 0, .int .i64 0, .int .i64 0, .int .i64 0, .int .i64 0, .int .i64 0, .int .i64 0, .int .i64 0, .int .i64 0, .int .i64 0, .int .i64 0, .bool false, .int .i64 0] 33 (0, 0)) = wa at hP0 hQ0 hzz hB0 hA0
  go_enter Tryz.func23, Tryz.ntmps23
  go_wp2_with (refine wpList_load_row rfl 33 _ rfl _ rfl _ _ (0, 0) _ hP0 Tryz.underlying33 rfl (by kernel_rfl) ?_)
  refine (sSV10_is la dy mi e1 n1 fe fn fu ho ha ne lo hi st up A cap xs _ HN.out hA0 hl HB.out).mono ?_; rintro E w1 ⟨rfl, hw1⟩
  have hP1 := blk_next hP0 hw1
  have hQ1 := blk_next hQ0 hw1
  have hB1 := bel_next hB0 hw1
  have hA1 := h0.next hB1
  clear hP0 hQ0 hA0
  go_wp2_with (refine wpList_load_row rfl 33 _ rfl _ rfl _ _ (0, 0) _ hP1 Tryz.underlying33 rfl (by kernel_rfl) ?_)
  refine (sCopy_is la dy mi e1 n1 fe fn fu ho ha ne lo hi st up A cap xs _ HN.out hA1 hl).mono ?_; rintro E w2 ⟨A2, cp2, rfl, hO2, hw2⟩
  rw [HN.out]
  have hP2 := blk_next hP1 hw2
  have hQ2 := blk_next hQ1 hw2
  have hB2 := bel_next hB1 hw2
  have hO2 := SOwn.mono (base' := w.heap.size) hO2 hB1.size
  clear hP1 hQ1 hB1 hA1
  obtain ⟨cP0, cP1, cP2, cP3, cP4, cP5, cP6, cP7, cP8, cP9, cP10, cP11, cP12, cP13, cP14, cP15, fP0, fP1, fP2, fP3, fP4, fP5, fP6, fP7, fP8, fP9, fP10, fP11, fP12, fP13, fP14, fP15, zP⟩ := blk16 hP2
  have hR3 := blk_new w2 (.cells #[.int .i64 la, .int .i64 (dy % 365 + 1), .int .i64 0, .slice A2 n cp2, .int .i64 e1, .int .i64 n1, .int .i64 fe, .int .i64 fn, .int .i64 fu, .int .i64 ho, .int .i64 ha, .int .i64 ne, .int .i64 lo, .int .i64 hi, .bool up, .int .i64 st] 33 (0, 0))
  have hP3 := blk_old hP2 (.cells #[.int .i64 la, .int .i64 (dy % 365 + 1), .int .i64 0, .slice A2 n cp2, .int .i64 e1, .int .i64 n1, .int .i64 fe, .int .i64 fn, .int .i64 fu, .int .i64 ho, .int .i64 ha, .int .i64 ne, .int .i64 lo, .int .i64 hi, .bool up, .int .i64 st] 33 (0, 0))
  have hQ3 := blk_old hQ2 (.cells #[.int .i64 la, .int .i64 (dy % 365 + 1), .int .i64 0, .slice A2 n cp2, .int .i64 e1, .int .i64 n1, .int .i64 fe, .int .i64 fn, .int .i64 fu, .int .i64 ho, .int .i64 ha, .int .i64 ne, .int .i64 lo, .int .i64 hi, .bool up, .int .i64 st] 33 (0, 0))
  have hB3 := hB2.alloc hB2.size (.cells #[.int .i64 la, .int .i64 (dy % 365 + 1), .int .i64 0, .slice A2 n cp2, .int .i64 e1, .int .i64 n1, .int .i64 fe, .int .i64 fn, .int .i64 fu, .int .i64 ho, .int .i64 ha, .int .i64 ne, .int .i64 lo, .int .i64 hi, .bool up, .int .i64 st] 33 (0, 0))
  have hO3 := hO2.alloc (.cells #[.int .i64 la, .int .i64 (dy % 365 + 1), .int .i64 0, .slice A2 n cp2, .int .i64 e1, .int .i64 n1, .int .i64 fe, .int .i64 fn, .int .i64 fu, .int .i64 ho, .int .i64 ha, .int .i64 ne, .int .i64 lo, .int .i64 hi, .bool up, .int .i64 st] 33 (0, 0))
  have hzQ := blk_lt hQ2
  go_wp2_with fail
  clear cP0 fP0 cP1 fP1 cP2 fP2 cP3 fP3 cP4 fP4 cP5 fP5 cP6 fP6 cP7 fP7 cP8 fP8 cP9 fP9 cP10 fP10 cP11 fP11 cP12 fP12 cP13 fP13 cP14 fP14 cP15 fP15 hP2 hQ2 hO2
  generalize hbR : w2.heap.size = bR at hR3 hzQ
  generalize w2.alloc (.cells #[.int .i64 la, .int .i64 (dy % 365 + 1), .int .i64 0, .slice A2 n cp2, .int .i64 e1, .int .i64 n1, .int .i64 fe, .int .i64 fn, .int .i64 fu, .int .i64 ho, .int .i64 ha, .int .i64 ne, .int .i64 lo, .int .i64 hi, .bool up, .int .i64 st] 33 (0, 0)) = w3 at hR3 hP3 hQ3 hB3 hO3
  refine wp_region_held_drew (S := (fun w' => w'.heap[w.heap.size]? = some (.cells #[.int .i64 la, .int .i64 dy, .int .i64 mi, .slice A n cap, .int .i64 e1, .int .i64 n1, .int .i64 fe, .int .i64 fn, .int .i64 fu, .int .i64 ho, .int .i64 ha, .int .i64 ne, .int .i64 lo, .int .i64 hi, .bool up, .int .i64 st] 33 (0, 0)) ∧ w'.heap[w.heap.size + 1]? = some (.cells #[.int .i64 0, .int .i64 0, .int .i64 0, .slice none 0 0, .int .i64 0, .int .i64 0, .int .i64 0, .int .i64 0, .int .i64 0, .int .i64 0, .int .i64 0, .int .i64 0, .int .i64 0, .int .i64 0, .bool false, .int .i64 0] 33 (0, 0)) ∧ Below w.heap.size w w')) (by kernel_rfl) ⟨blk_drwE hP3, blk_drwE hQ3, hB3.drew⟩ (fun hHeld => ?_)
  have hR4 := blk_drwE hR3
  have hO4 := hO3.drew
  clear hR3 hP3 hQ3 hB3 hO3
  refine wpAnyH_take (i := 0) (oi := _) (v := ?_) rfl (by kernel_rfl) (by kernel_rfl) (by kernel_rfl) (fun _ _ _ h => h) (Or.inl ⟨by rfl, ?_⟩) (by assumption) ?_
  (rotate_left); (focus (intro wv hSw; go_simp; (try with_reducible rfl)))
  try simp only [Act.put, List.getElem_toArray, List.getElem_cons_succ, List.getElem_cons_zero, List.setIfInBounds_toArray, List.set_cons_zero, List.set_cons_succ]
  refine wpAnyH_take (i := 1) (oi := _) (v := ?_) rfl (by kernel_rfl) (by kernel_rfl) (by kernel_rfl) (fun _ _ _ h => h) (Or.inl ⟨by rfl, ?_⟩) (by assumption) ?_
  (rotate_left); (focus (intro wv hSw; obtain ⟨qP, _, _⟩ := id hSw; obtain ⟨_, _, _, _, _, _, _, _, _, _, _, _, _, _, _, _, _, _, _, _, _, _, _, _, _, _, _, _, _, _, _, _, _⟩ := blk16 qP; go_simp; (try with_reducible rfl)))
  try simp only [Act.put, List.getElem_toArray, List.getElem_cons_succ, List.getElem_cons_zero, List.setIfInBounds_toArray, List.set_cons_zero, List.set_cons_succ]
  refine wpAnyH_take (i := 5) (oi := _) (v := ?_) rfl (by kernel_rfl) (by kernel_rfl) (by kernel_rfl) (fun _ _ _ h => h) (Or.inl ⟨by rfl, ?_⟩) (by assumption) ?_
  (rotate_left); (focus (intro wv hSw; go_simp; (try with_reducible rfl)))
  try simp only [Act.put, List.getElem_toArray, List.getElem_cons_succ, List.getElem_cons_zero, List.setIfInBounds_toArray, List.set_cons_zero, List.set_cons_succ]
  refine wpAnyH_take (i := 6) (oi := _) (v := ?_) rfl (by kernel_rfl) (by kernel_rfl) (by kernel_rfl) (fun _ _ _ h => h) (Or.inl ⟨by rfl, ?_⟩) (by assumption) ?_
  (rotate_left); (focus (intro wv hSw; obtain ⟨qP, _, _⟩ := id hSw; obtain ⟨_, _, _, _, _, _, _, _, _, _, _, _, _, _, _, _, _, _, _, _, _, _, _, _, _, _, _, _, _, _, _, _, _⟩ := blk16 qP; go_simp; (try with_reducible rfl)))
  try simp only [Act.put, List.getElem_toArray, List.getElem_cons_succ, List.getElem_cons_zero, List.setIfInBounds_toArray, List.set_cons_zero, List.set_cons_succ]
  refine wpAnyH_take (i := 9) (oi := _) (v := ?_) rfl (by kernel_rfl) (by kernel_rfl) (by kernel_rfl) (fun _ _ _ h => h) (Or.inl ⟨by rfl, ?_⟩) (by assumption) ?_
  (rotate_left); (focus (intro wv hSw; go_simp; (try with_reducible rfl)))
  try simp only [Act.put, List.getElem_toArray, List.getElem_cons_succ, List.getElem_cons_zero, List.setIfInBounds_toArray, List.set_cons_zero, List.set_cons_succ]
  refine wpAnyH_take (i := 10) (oi := _) (v := ?_) rfl (by kernel_rfl) (by kernel_rfl) (by kernel_rfl) (fun _ _ _ h => h) (Or.inl ⟨by rfl, ?_⟩) (by assumption) ?_
  (rotate_left); (focus (intro wv hSw; obtain ⟨qP, _, _⟩ := id hSw; obtain ⟨_, _, _, _, _, _, _, _, _, _, _, _, _, _, _, _, _, _, _, _, _, _, _, _, _, _, _, _, _, _, _, _, _⟩ := blk16 qP; go_simp; (try with_reducible rfl)))
  try simp only [Act.put, List.getElem_toArray, List.getElem_cons_succ, List.getElem_cons_zero, List.setIfInBounds_toArray, List.set_cons_zero, List.set_cons_succ]
  refine wpAnyH_ready (rs := [2]) (by kernel_rfl) (by simp) ?_
  refine AllReadyH.cons (o := _) rfl (fun K hK => ?_) (AllReadyH.nil)
  rw [if_pos (by kernel_rfl)]
  refine wp_load_row 33 _ rfl bR rfl _ _ (0, 0) _ hR4 Tryz.underlying33 rfl (by kernel_rfl) ?_
  refine hK.out _ _ (id hHeld) (fun hHeld => ?_)
  clear hK K
  try simp only [Act.put, List.getElem_toArray, List.getElem_cons_succ, List.getElem_cons_zero, List.setIfInBounds_toArray, List.set_cons_zero, List.set_cons_succ]
  refine wpAnyH_ready (rs := [3]) (by kernel_rfl) (by simp) ?_
  refine AllReadyH.cons (o := _) rfl (fun K hK => ?_) (AllReadyH.nil)
  go_simp
  (go_at_call 18; refine (sSG_is la (dy % 365 + 1) 0 e1 n1 fe fn fu ho ha ne lo hi st up A2 cp2 xs _ HN.out hO4.row hl HG.out).mono ?_; rintro e x5 ⟨rfl, hw5⟩)
  refine hK.out _ _ ⟨blk_next hHeld.1 hw5, blk_next hHeld.2.1 hw5, bel_next hHeld.2.2 hw5⟩ (fun hHeld => ?_)
  clear hK K
  try simp only [Act.put, List.getElem_toArray, List.getElem_cons_succ, List.getElem_cons_zero, List.setIfInBounds_toArray, List.set_cons_zero, List.set_cons_succ]
  have hR5 := blk_next hR4 hw5
  have hO5 := hO4.next hw5
  clear hR4 hO4
  refine wpAnyH_take (i := 4) (oi := _) (v := ?_) rfl (by kernel_rfl) (by kernel_rfl) (by kernel_rfl) (fun _ _ _ h => h) (Or.inl ⟨by rfl, ?_⟩) (by assumption) ?_
  (rotate_left); (focus (intro wv hSw; go_simp; (try with_reducible rfl)))
  try simp only [Act.put, List.getElem_toArray, List.getElem_cons_succ, List.getElem_cons_zero, List.setIfInBounds_toArray, List.set_cons_zero, List.set_cons_succ]
  refine wpAnyH_take (i := 7) (oi := _) (v := ?_) rfl (by kernel_rfl) (by kernel_rfl) (by kernel_rfl) (fun _ _ _ h => h) (Or.inl ⟨by rfl, ?_⟩) (by assumption) ?_
  (rotate_left); (focus (intro wv hSw; go_simp; (try with_reducible rfl)))
  try simp only [Act.put, List.getElem_toArray, List.getElem_cons_succ, List.getElem_cons_zero, List.setIfInBounds_toArray, List.set_cons_zero, List.set_cons_succ]
  refine wpAnyH_take (i := 8) (oi := _) (v := ?_) rfl (by kernel_rfl) (by kernel_rfl) (by kernel_rfl) (fun _ _ _ h => h) (Or.inl ⟨by rfl, ?_⟩) (by assumption) ?_
  (rotate_left); (focus (intro wv hSw; go_simp; (try with_reducible rfl)))
  try simp only [Act.put, List.getElem_toArray, List.getElem_cons_succ, List.getElem_cons_zero, List.setIfInBounds_toArray, List.set_cons_zero, List.set_cons_succ]
  refine wpAnyH_take (i := 11) (oi := _) (v := ?_) rfl (by kernel_rfl) (by kernel_rfl) (by kernel_rfl) (fun _ _ _ h => h) (Or.inl ⟨by rfl, ?_⟩) (by assumption) ?_
  (rotate_left); (focus (intro wv hSw; go_simp; (try with_reducible rfl)))
  try simp only [Act.put, List.getElem_toArray, List.getElem_cons_succ, List.getElem_cons_zero, List.setIfInBounds_toArray, List.set_cons_zero, List.set_cons_succ]
  refine wpAnyH_take (i := 12) (oi := _) (v := ?_) rfl (by kernel_rfl) (by kernel_rfl) (by kernel_rfl) (fun _ _ _ h => h) (Or.inl ⟨by rfl, ?_⟩) (by assumption) ?_
  (rotate_left); (focus (intro wv hSw; go_simp; (try with_reducible rfl)))
  try simp only [Act.put, List.getElem_toArray, List.getElem_cons_succ, List.getElem_cons_zero, List.setIfInBounds_toArray, List.set_cons_zero, List.set_cons_succ]
  have hw81 : IntKind.i64.wrap (ha + g) = ha + g := IntWalk.i64_in _ (by omega)
  have hw82 : IntKind.i64.wrap (ha + g - ne) = ha + g - ne := IntWalk.i64_in _ (by omega)
  have hval : (if ho < if IntKind.i64.wrap (IntKind.i64.wrap (ha + g) - ne) < 0 then 0 else IntKind.i64.wrap (IntKind.i64.wrap (ha + g) - ne) then ho else if IntKind.i64.wrap (IntKind.i64.wrap (ha + g) - ne) < 0 then 0 else IntKind.i64.wrap (IntKind.i64.wrap (ha + g) - ne)) = r := by rw [hw81, hw82, ← HR.out]; unfold stS; dsimp only; split <;> split at * <;> omega
  rw [hval]
  generalize (if IntKind.i64.wrap (IntKind.i64.wrap (ha + g) - ne) < 0 then (0 : Int) else IntKind.i64.wrap (IntKind.i64.wrap (ha + g) - ne)) = q9
  clear hval hw81 hw82
  obtain ⟨cR0, cR1, cR2, cR3, cR4, cR5, cR6, cR7, cR8, cR9, cR10, cR11, cR12, cR13, cR14, cR15, fR0, fR1, fR2, fR3, fR4, fR5, fR6, fR7, fR8, fR9, fR10, fR11, fR12, fR13, fR14, fR15, zR⟩ := blk16 hR5
  refine wpAnyH_ready (rs := [13]) (by kernel_rfl) (by simp) ?_
  refine AllReadyH.cons (o := _) rfl (fun K hK => ?_) (AllReadyH.nil)
  go_simp
  refine hK.out _ _ ⟨(blk_far (C := bR) (i := 10) hHeld.1 (by omega) (.int .i64 r)), (blk_far (C := bR) (i := 10) hHeld.2.1 (by omega) (.int .i64 r)), hHeld.2.2.setCell (p := ⟨bR, 10, none⟩) (by show _ ≤ bR; omega) (.int .i64 r)⟩ (fun hHeld => ?_)
  clear hK K
  try simp only [Act.put, List.getElem_toArray, List.getElem_cons_succ, List.getElem_cons_zero, List.setIfInBounds_toArray, List.set_cons_zero, List.set_cons_succ]
  have hR6 := blk16_at10 (v := .int .i64 r) hR5
  have hO6 := SOwn.boxE (i := 10) hO5 hR5 (by decide) (.int .i64 r)
  clear hR5 hO5 cR0 fR0 cR1 fR1 cR2 fR2 cR3 fR3 cR4 fR4 cR5 fR5 cR6 fR6 cR7 fR7 cR8 fR8 cR9 fR9 cR10 fR10 cR11 fR11 cR12 fR12 cR13 fR13 cR14 fR14 cR15 fR15
  refine wpAnyH_done (by kernel_rfl) ?_ _
  generalize World.setCell x5 ⟨bR, 10, none⟩ (.int .i64 r) = w6 at hHeld hR6 hO6 ⊢
  obtain ⟨hP6, hQ6, hB6⟩ := hHeld
  go_wp2_with fail
  refine wp_region_held_drew (S := (fun w' => w'.heap[w.heap.size]? = some (.cells #[.int .i64 la, .int .i64 dy, .int .i64 mi, .slice A n cap, .int .i64 e1, .int .i64 n1, .int .i64 fe, .int .i64 fn, .int .i64 fu, .int .i64 ho, .int .i64 ha, .int .i64 ne, .int .i64 lo, .int .i64 hi, .bool up, .int .i64 st] 33 (0, 0)) ∧ w'.heap[w.heap.size + 1]? = some (.cells #[.int .i64 0, .int .i64 0, .int .i64 0, .slice none 0 0, .int .i64 0, .int .i64 0, .int .i64 0, .int .i64 0, .int .i64 0, .int .i64 0, .int .i64 0, .int .i64 0, .int .i64 0, .int .i64 0, .bool false, .int .i64 0] 33 (0, 0)) ∧ Below w.heap.size w w')) (by kernel_rfl) ⟨blk_drwE hP6, blk_drwE hQ6, hB6.drew⟩ (fun hHeld => ?_)
  have hR7 := blk_drwE hR6
  have hO7 := hO6.drew
  clear hR6 hP6 hQ6 hB6 hO6
  refine wpAnyH_take (i := 0) (oi := _) (v := ?_) rfl (by kernel_rfl) (by kernel_rfl) (by kernel_rfl) (fun _ _ _ h => h) (Or.inl ⟨by rfl, ?_⟩) (by assumption) ?_
  (rotate_left); (focus (intro wv hSw; go_simp; (try with_reducible rfl)))
  try simp only [Act.put, List.getElem_toArray, List.getElem_cons_succ, List.getElem_cons_zero, List.setIfInBounds_toArray, List.set_cons_zero, List.set_cons_succ]
  refine wpAnyH_take (i := 1) (oi := _) (v := ?_) rfl (by kernel_rfl) (by kernel_rfl) (by kernel_rfl) (fun _ _ _ h => h) (Or.inl ⟨by rfl, ?_⟩) (by assumption) ?_
  (rotate_left); (focus (intro wv hSw; obtain ⟨qP, _, _⟩ := id hSw; obtain ⟨_, _, _, _, _, _, _, _, _, _, _, _, _, _, _, _, _, _, _, _, _, _, _, _, _, _, _, _, _, _, _, _, _⟩ := blk16 qP; go_simp; (try with_reducible rfl)))
  try simp only [Act.put, List.getElem_toArray, List.getElem_cons_succ, List.getElem_cons_zero, List.setIfInBounds_toArray, List.set_cons_zero, List.set_cons_succ]
  refine wpAnyH_take (i := 2) (oi := _) (v := ?_) rfl (by kernel_rfl) (by kernel_rfl) (by kernel_rfl) (fun _ _ _ h => h) (Or.inl ⟨by rfl, ?_⟩) (by assumption) ?_
  (rotate_left); (focus (intro wv hSw; go_simp; (try with_reducible rfl)))
  try simp only [Act.put, List.getElem_toArray, List.getElem_cons_succ, List.getElem_cons_zero, List.setIfInBounds_toArray, List.set_cons_zero, List.set_cons_succ]
  refine wpAnyH_take (i := 3) (oi := _) (v := ?_) rfl (by kernel_rfl) (by kernel_rfl) (by kernel_rfl) (fun _ _ _ h => h) (Or.inl ⟨by rfl, ?_⟩) (by assumption) ?_
  (rotate_left); (focus (intro wv hSw; obtain ⟨qP, _, _⟩ := id hSw; obtain ⟨_, _, _, _, _, _, _, _, _, _, _, _, _, _, _, _, _, _, _, _, _, _, _, _, _, _, _, _, _, _, _, _, _⟩ := blk16 qP; go_simp; (try with_reducible rfl)))
  try simp only [Act.put, List.getElem_toArray, List.getElem_cons_succ, List.getElem_cons_zero, List.setIfInBounds_toArray, List.set_cons_zero, List.set_cons_succ]
  refine wpAnyH_ready (rs := [4]) (by kernel_rfl) (by simp) ?_
  refine AllReadyH.cons (o := _) rfl (fun K hK => ?_) (AllReadyH.nil)
  rw [if_pos (by kernel_rfl)]
  refine wp_load_row 33 _ rfl bR rfl _ _ (0, 0) _ hR7 Tryz.underlying33 rfl (by kernel_rfl) ?_
  refine hK.out _ _ (id hHeld) (fun hHeld => ?_)
  clear hK K
  try simp only [Act.put, List.getElem_toArray, List.getElem_cons_succ, List.getElem_cons_zero, List.setIfInBounds_toArray, List.set_cons_zero, List.set_cons_succ]
  refine wpAnyH_ready (rs := [5]) (by kernel_rfl) (by simp) ?_
  refine AllReadyH.cons (o := _) rfl (fun K hK => ?_) (AllReadyH.nil)
  go_simp
  (go_at_call 12; refine (sSL_is la (dy % 365 + 1) 0 e1 n1 fe fn fu ho r ne lo hi st up A2 cp2 xs _ HN.out hO7.row hl HX.out).mono ?_; rintro e x8 ⟨rfl, hw8⟩)
  refine hK.out _ _ ⟨blk_next hHeld.1 hw8, blk_next hHeld.2.1 hw8, bel_next hHeld.2.2 hw8⟩ (fun hHeld => ?_)
  clear hK K
  try simp only [Act.put, List.getElem_toArray, List.getElem_cons_succ, List.getElem_cons_zero, List.setIfInBounds_toArray, List.set_cons_zero, List.set_cons_succ]
  have hR8 := blk_next hR7 hw8
  have hO8 := hO7.next hw8
  clear hR7 hO7
  refine wpAnyH_ready (rs := [6]) (by kernel_rfl) (by simp) ?_
  refine AllReadyH.cons (o := _) rfl (fun K hK => ?_) (AllReadyH.nil)
  go_simp
  (go_at_call 64; refine (sPs_is _ HU.out HT.out).mono ?_; rintro e x9 ⟨rfl, hw9⟩)
  refine hK.out _ _ ⟨blk_next hHeld.1 hw9, blk_next hHeld.2.1 hw9, bel_next hHeld.2.2 hw9⟩ (fun hHeld => ?_)
  clear hK K
  try simp only [Act.put, List.getElem_toArray, List.getElem_cons_succ, List.getElem_cons_zero, List.setIfInBounds_toArray, List.set_cons_zero, List.set_cons_succ]
  have hR9 := blk_next hR8 hw9
  have hO9 := hO8.next hw9
  clear hR8 hO8
  refine wpAnyH_take (i := 7) (oi := _) (v := ?_) rfl (by kernel_rfl) (by kernel_rfl) (by kernel_rfl) (fun _ _ _ h => h) (Or.inl ⟨by rfl, ?_⟩) (by assumption) ?_
  (rotate_left); (focus (intro wv hSw; go_simp; (try with_reducible rfl)))
  try simp only [Act.put, List.getElem_toArray, List.getElem_cons_succ, List.getElem_cons_zero, List.setIfInBounds_toArray, List.set_cons_zero, List.set_cons_succ]
  obtain ⟨cR0, cR1, cR2, cR3, cR4, cR5, cR6, cR7, cR8, cR9, cR10, cR11, cR12, cR13, cR14, cR15, fR0, fR1, fR2, fR3, fR4, fR5, fR6, fR7, fR8, fR9, fR10, fR11, fR12, fR13, fR14, fR15, zR⟩ := blk16 hR9
  refine wpAnyH_ready (rs := [8]) (by kernel_rfl) (by simp) ?_
  refine AllReadyH.cons (o := _) rfl (fun K hK => ?_) (AllReadyH.nil)
  go_simp
  refine hK.out _ _ ⟨(blk_far (C := bR) (i := 15) (blk_far (C := bR) (i := 14) hHeld.1 (by omega) (.bool u)) (by omega) (.int .i64 t)), (blk_far (C := bR) (i := 15) (blk_far (C := bR) (i := 14) hHeld.2.1 (by omega) (.bool u)) (by omega) (.int .i64 t)), (hHeld.2.2.setCell (p := ⟨bR, 14, none⟩) (by show _ ≤ bR; omega) (.bool u)).setCell (p := ⟨bR, 15, none⟩) (by show _ ≤ bR; omega) (.int .i64 t)⟩ (fun hHeld => ?_)
  clear hK K
  try simp only [Act.put, List.getElem_toArray, List.getElem_cons_succ, List.getElem_cons_zero, List.setIfInBounds_toArray, List.set_cons_zero, List.set_cons_succ]
  have hR10 := blk16_at15 (v := .int .i64 t) (blk16_at14 (v := .bool u) hR9)
  have hO10 := SOwn.boxE (i := 15) (SOwn.boxE (i := 14) hO9 hR9 (by decide) (.bool u)) (blk16_at14 (v := .bool u) hR9) (by decide) (.int .i64 t)
  clear hR9 hO9 cR0 fR0 cR1 fR1 cR2 fR2 cR3 fR3 cR4 fR4 cR5 fR5 cR6 fR6 cR7 fR7 cR8 fR8 cR9 fR9 cR10 fR10 cR11 fR11 cR12 fR12 cR13 fR13 cR14 fR14 cR15 fR15
  refine wpAnyH_done (by kernel_rfl) ?_ _
  generalize World.setCell (World.setCell x9 ⟨bR, 14, none⟩ (.bool u)) ⟨bR, 15, none⟩ (.int .i64 t) = w10 at hHeld hR10 hO10 ⊢
  obtain ⟨hP10, hQ10, hB10⟩ := hHeld
  obtain ⟨cQ0, cQ1, cQ2, cQ3, cQ4, cQ5, cQ6, cQ7, cQ8, cQ9, cQ10, cQ11, cQ12, cQ13, cQ14, cQ15, fQ0, fQ1, fQ2, fQ3, fQ4, fQ5, fQ6, fQ7, fQ8, fQ9, fQ10, fQ11, fQ12, fQ13, fQ14, fQ15, zQ⟩ := blk16 hQ10
  go_wp2_with (refine wpList_load_row rfl 33 _ rfl _ rfl _ _ (0, 0) _ hR10 Tryz.underlying33 rfl (by kernel_rfl) ?_)
  have hQ9 := blk16_put (y0 := .int .i64 la) (y1 := .int .i64 (dy % 365 + 1)) (y2 := .int .i64 0) (y3 := .slice A2 n cp2) (y4 := .int .i64 e1) (y5 := .int .i64 n1) (y6 := .int .i64 fe) (y7 := .int .i64 fn) (y8 := .int .i64 fu) (y9 := .int .i64 ho) (y10 := .int .i64 r) (y11 := .int .i64 ne) (y12 := .int .i64 lo) (y13 := .int .i64 hi) (y14 := .bool u) (y15 := .int .i64 t) hQ10
  have hO9 := SOwn.far16 hO10 hQ10 (by decide) (.int .i64 la) (.int .i64 (dy % 365 + 1)) (.int .i64 0) (.slice A2 n cp2) (.int .i64 e1) (.int .i64 n1) (.int .i64 fe) (.int .i64 fn) (.int .i64 fu) (.int .i64 ho) (.int .i64 r) (.int .i64 ne) (.int .i64 lo) (.int .i64 hi) (.bool u) (.int .i64 t)
  have hB9 := store16_bel (C := (w.heap.size + 1)) hB10 (by omega) (.int .i64 la) (.int .i64 (dy % 365 + 1)) (.int .i64 0) (.slice A2 n cp2) (.int .i64 e1) (.int .i64 n1) (.int .i64 fe) (.int .i64 fn) (.int .i64 fu) (.int .i64 ho) (.int .i64 r) (.int .i64 ne) (.int .i64 lo) (.int .i64 hi) (.bool u) (.int .i64 t)
  exact bodyPost_ret (v := .agg #[.int .i64 la, .int .i64 (dy % 365 + 1), .int .i64 0, .slice A2 n cp2, .int .i64 e1, .int .i64 n1, .int .i64 fe, .int .i64 fn, .int .i64 fu, .int .i64 ho, .int .i64 r, .int .i64 ne, .int .i64 lo, .int .i64 hi, .bool u, .int .i64 t]) (results_cell_row Tryz.results23 _ _ _ _ _ (0, 0) _ rfl hQ9 Tryz.underlying33 rfl (by kernel_rfl)) rfl ⟨A2, cp2, by rw [HN.out], hO9, hB9⟩
theorem sST_is (la dy mi e1 n1 fe fn fu ho ha ne lo hi st : Int) (up : Bool) (A : Option Addr) (cap : Nat) (xs : List VBlock) {r0 r1 r2 r3 r4 r5 r6 r7 r8 r9 r10 r11 r12 r13 : Int} {rb : Bool} {l : List VBlock} {n : Nat} (w : World) (hn : xs.length = n) (h : SRow encBlock w A xs) (hl : n ≤ 2000000) (hr : siT la dy mi e1 n1 fe fn fu ho ha ne lo hi st up xs 1 = (r0, r1, r2, r3, r4, r5, r6, r7, r8, r9, r10, r11, r12, r13, rb, l)) : Calls Tryz.prog 23 #[.agg #[.int .i64 la, .int .i64 dy, .int .i64 mi, .slice A n cap, .int .i64 e1, .int .i64 n1, .int .i64 fe, .int .i64 fn, .int .i64 fu, .int .i64 ho, .int .i64 ha, .int .i64 ne, .int .i64 lo, .int .i64 hi, .bool up, .int .i64 st]] w (CopyB r0 r1 r2 r3 r4 r5 r6 r7 r8 r9 r10 r11 r12 r13 rb l w) := by
  cases hb : siB la dy mi e1 n1 fe fn fu ho ha ne lo hi st xs
  · rw [siT_no (.inl hb)] at hr
    unfold siZ at hr
    simp only [Prod.mk.injEq] at hr
    obtain ⟨rfl, rfl, rfl, rfl, rfl, rfl, rfl, rfl, rfl, rfl, rfl, rfl, rfl, rfl, rfl, rfl⟩ := hr
    exact sST_bad la dy mi e1 n1 fe fn fu ho ha ne lo hi st up A cap xs w hn h hl hb
  · have h1 := siT_yes (M := 1) (up := up) hb (by omega) (d := tkD dy mi) (m := tkM mi) (a := stS ho ha (gxI la e1 n1 fe fn fu xs (tkD dy mi) (tkM mi), ne)) (u := psS up st lo hi 2 (lxI la e1 n1 xs (tkD dy mi) (tkM mi))) (t := psT up st lo hi 2 (lxI la e1 n1 xs (tkD dy mi) (tkM mi))) rfl
    rw [show ((1 : Nat) : Int) = 1 from rfl, hr] at h1
    have h1 := h1.symm
    simp only [Prod.mk.injEq] at h1
    obtain ⟨rfl, rfl, rfl, rfl, rfl, rfl, rfl, rfl, rfl, rfl, rfl, rfl, rfl, rfl, rfl, rfl⟩ := h1
    by_cases hm : mi + 15 = 1440
    · exact sST_end la dy mi e1 n1 fe fn fu ho ha ne lo hi st up A cap xs w hn h hl hb hm rfl rfl rfl rfl rfl
    · exact sST_mid la dy mi e1 n1 fe fn fu ho ha ne lo hi st up A cap xs w hn h hl hb hm rfl rfl rfl rfl rfl
end Go.Proofs.YtbklgpghonigjaaGreat
namespace Go.Proofs.YtbklgpghonigjaaGreat
open Go Go.ChangeShapes Go.WideShapes Go.ChangeAt Go.RowKit
set_option linter.unusedSimpArgs false
set_option linter.unusedVariables false
theorem sInE_is {n a b : Int} {r : Bool} (w : World) (h_ : inV n a b = r) : Calls Tryz.prog 65 #[.int .i64 n, .int .i64 a, .int .i64 b] w fun E w' => E = .returned (.bool r) ∧ w = w' := by subst h_; exact sIn7 _ _ _ _
set_option maxRecDepth 100000 in
set_option maxHeartbeats 4000000 in
theorem sSTs_bad1 (la dy mi e1 n1 fe fn fu ho ha ne lo hi st : Int) (up : Bool) (A : Option Addr) (cap : Nat) (xs : List VBlock) {many : Int} {n : Nat} (w : World) (hn : xs.length = n) (h : SRow encBlock w A xs) (hl : n ≤ 2000000) (hb : siB la dy mi e1 n1 fe fn fu ho ha ne lo hi st xs = false) :
    Calls Tryz.prog 32 #[.agg #[.int .i64 la, .int .i64 dy, .int .i64 mi, .slice A n cap, .int .i64 e1, .int .i64 n1, .int .i64 fe, .int .i64 fn, .int .i64 fu, .int .i64 ho, .int .i64 ha, .int .i64 ne, .int .i64 lo, .int .i64 hi, .bool up, .int .i64 st], .int .i64 many] w (CopyB 0 0 0 0 0 0 0 0 0 0 0 0 0 0 false [] w) := by
  have HB := Lib.hid hb
  clear hb
  have HN := Lib.hid hn
  have h0 := h
  clear hn h
  have hP0 := blk_old (blk_new w (.cells #[.int .i64 la, .int .i64 dy, .int .i64 mi, .slice A n cap, .int .i64 e1, .int .i64 n1, .int .i64 fe, .int .i64 fn, .int .i64 fu, .int .i64 ho, .int .i64 ha, .int .i64 ne, .int .i64 lo, .int .i64 hi, .bool up, .int .i64 st] 33 (0, 0))) (.cells #[.int .i64 0, .int .i64 0, .int .i64 0, .slice none 0 0, .int .i64 0, .int .i64 0, .int .i64 0, .int .i64 0, .int .i64 0, .int .i64 0, .int .i64 0, .int .i64 0, .int .i64 0, .int .i64 0, .bool false, .int .i64 0] 33 (0, 0))
  have hQ0 := blk_new (w.alloc (.cells #[.int .i64 la, .int .i64 dy, .int .i64 mi, .slice A n cap, .int .i64 e1, .int .i64 n1, .int .i64 fe, .int .i64 fn, .int .i64 fu, .int .i64 ho, .int .i64 ha, .int .i64 ne, .int .i64 lo, .int .i64 hi, .bool up, .int .i64 st] 33 (0, 0))) (.cells #[.int .i64 0, .int .i64 0, .int .i64 0, .slice none 0 0, .int .i64 0, .int .i64 0, .int .i64 0, .int .i64 0, .int .i64 0, .int .i64 0, .int .i64 0, .int .i64 0, .int .i64 0, .int .i64 0, .bool false, .int .i64 0] 33 (0, 0))
  have hsz : (w.alloc (.cells #[.int .i64 la, .int .i64 dy, .int .i64 mi, .slice A n cap, .int .i64 e1, .int .i64 n1, .int .i64 fe, .int .i64 fn, .int .i64 fu, .int .i64 ho, .int .i64 ha, .int .i64 ne, .int .i64 lo, .int .i64 hi, .bool up, .int .i64 st] 33 (0, 0))).heap.size = w.heap.size + 1 := by simp
  rw [hsz] at hQ0
  have hB0 := bel2 w (.cells #[.int .i64 la, .int .i64 dy, .int .i64 mi, .slice A n cap, .int .i64 e1, .int .i64 n1, .int .i64 fe, .int .i64 fn, .int .i64 fu, .int .i64 ho, .int .i64 ha, .int .i64 ne, .int .i64 lo, .int .i64 hi, .bool up, .int .i64 st] 33 (0, 0)) (.cells #[.int .i64 0, .int .i64 0, .int .i64 0, .slice none 0 0, .int .i64 0, .int .i64 0, .int .i64 0, .int .i64 0, .int .i64 0, .int .i64 0, .int .i64 0, .int .i64 0, .int .i64 0, .int .i64 0, .bool false, .int .i64 0] 33 (0, 0))
  have hA0 := h0.next hB0
  have hzz : ((w.alloc (.cells #[.int .i64 la, .int .i64 dy, .int .i64 mi, .slice A n cap, .int .i64 e1, .int .i64 n1, .int .i64 fe, .int .i64 fn, .int .i64 fu, .int .i64 ho, .int .i64 ha, .int .i64 ne, .int .i64 lo, .int .i64 hi, .bool up, .int .i64 st] 33 (0, 0))).alloc (.cells #[.int .i64 0, .int .i64 0, .int .i64 0, .slice none 0 0, .int .i64 0, .int .i64 0, .int .i64 0, .int .i64 0, .int .i64 0, .int .i64 0, .int .i64 0, .int .i64 0, .int .i64 0, .int .i64 0, .bool false, .int .i64 0] 33 (0, 0))).heap.size = w.heap.size + 1 + 1 := by simp
  generalize hwa : (w.alloc (.cells #[.int .i64 la, .int .i64 dy, .int .i64 mi, .slice A n cap, .int .i64 e1, .int .i64 n1, .int .i64 fe, .int .i64 fn, .int .i64 fu, .int .i64 ho, .int .i64 ha, .int .i64 ne, .int .i64 lo, .int .i64 hi, .bool up, .int .i64 st] 33 (0, 0))).alloc (.cells #[.int .i64 0, .int .i64 0, .int .i64 0, .slice none 0 0, .int .i64 0, .int .i64 0, .int .i64 0, .int .i64 0, .int .i64 0, .int .i64 0, .int .i64 0, .int .i64 0, .int .i64 0, .int .i64 0, .bool false, .int .i64 0] 33 (0, 0)) = wa at hP0 hQ0 hzz hB0 hA0
  go_enter Tryz.func32, Tryz.ntmps32
  go_wp2_with (refine wpList_load_row rfl 33 _ rfl _ rfl _ _ (0, 0) _ hP0 Tryz.underlying33 rfl (by kernel_rfl) ?_)
  refine (sSV10_is la dy mi e1 n1 fe fn fu ho ha ne lo hi st up A cap xs _ HN.out hA0 hl HB.out).mono ?_; rintro E w1 ⟨rfl, hw1⟩
  have hP1 := blk_next hP0 hw1
  have hQ1 := blk_next hQ0 hw1
  have hB1 := bel_next hB0 hw1
  have hA1 := h0.next hB1
  clear hP0 hQ0 hA0
  obtain ⟨cQ0, cQ1, cQ2, cQ3, cQ4, cQ5, cQ6, cQ7, cQ8, cQ9, cQ10, cQ11, cQ12, cQ13, cQ14, cQ15, fQ0, fQ1, fQ2, fQ3, fQ4, fQ5, fQ6, fQ7, fQ8, fQ9, fQ10, fQ11, fQ12, fQ13, fQ14, fQ15, zQ⟩ := blk16 hQ1
  go_wp2_with fail
  have hO1 : SOwn encBlock w1 w.heap.size 40 none 0 [] := SOwn.nil _ _ _
  have hQ9 := blk16_put (y0 := .int .i64 0) (y1 := .int .i64 0) (y2 := .int .i64 0) (y3 := .slice none 0 0) (y4 := .int .i64 0) (y5 := .int .i64 0) (y6 := .int .i64 0) (y7 := .int .i64 0) (y8 := .int .i64 0) (y9 := .int .i64 0) (y10 := .int .i64 0) (y11 := .int .i64 0) (y12 := .int .i64 0) (y13 := .int .i64 0) (y14 := .bool false) (y15 := .int .i64 0) hQ1
  have hO9 := SOwn.far16 hO1 hQ1 (by decide) (.int .i64 0) (.int .i64 0) (.int .i64 0) (.slice none 0 0) (.int .i64 0) (.int .i64 0) (.int .i64 0) (.int .i64 0) (.int .i64 0) (.int .i64 0) (.int .i64 0) (.int .i64 0) (.int .i64 0) (.int .i64 0) (.bool false) (.int .i64 0)
  have hB9 := store16_bel (C := (w.heap.size + 1)) hB1 (by omega) (.int .i64 0) (.int .i64 0) (.int .i64 0) (.slice none 0 0) (.int .i64 0) (.int .i64 0) (.int .i64 0) (.int .i64 0) (.int .i64 0) (.int .i64 0) (.int .i64 0) (.int .i64 0) (.int .i64 0) (.int .i64 0) (.bool false) (.int .i64 0)
  exact bodyPost_ret (v := .agg #[.int .i64 0, .int .i64 0, .int .i64 0, .slice none 0 0, .int .i64 0, .int .i64 0, .int .i64 0, .int .i64 0, .int .i64 0, .int .i64 0, .int .i64 0, .int .i64 0, .int .i64 0, .int .i64 0, .bool false, .int .i64 0]) (results_cell_row Tryz.results32 _ _ _ _ _ (0, 0) _ rfl hQ9 Tryz.underlying33 rfl (by kernel_rfl)) rfl ⟨none, 0, rfl, hO9, hB9⟩
set_option maxRecDepth 100000 in
set_option maxHeartbeats 4000000 in
theorem sSTs_bad2 (la dy mi e1 n1 fe fn fu ho ha ne lo hi st : Int) (up : Bool) (A : Option Addr) (cap : Nat) (xs : List VBlock) {many : Int} {n : Nat} (w : World) (hn : xs.length = n) (h : SRow encBlock w A xs) (hl : n ≤ 2000000) (hb : siB la dy mi e1 n1 fe fn fu ho ha ne lo hi st xs = true) (hq : inV many 0 96 = false) :
    Calls Tryz.prog 32 #[.agg #[.int .i64 la, .int .i64 dy, .int .i64 mi, .slice A n cap, .int .i64 e1, .int .i64 n1, .int .i64 fe, .int .i64 fn, .int .i64 fu, .int .i64 ho, .int .i64 ha, .int .i64 ne, .int .i64 lo, .int .i64 hi, .bool up, .int .i64 st], .int .i64 many] w (CopyB 0 0 0 0 0 0 0 0 0 0 0 0 0 0 false [] w) := by
  have HB := Lib.hid hb
  have HQ := Lib.hid hq
  clear hq
  clear hb
  have HN := Lib.hid hn
  have h0 := h
  clear hn h
  have hP0 := blk_old (blk_new w (.cells #[.int .i64 la, .int .i64 dy, .int .i64 mi, .slice A n cap, .int .i64 e1, .int .i64 n1, .int .i64 fe, .int .i64 fn, .int .i64 fu, .int .i64 ho, .int .i64 ha, .int .i64 ne, .int .i64 lo, .int .i64 hi, .bool up, .int .i64 st] 33 (0, 0))) (.cells #[.int .i64 0, .int .i64 0, .int .i64 0, .slice none 0 0, .int .i64 0, .int .i64 0, .int .i64 0, .int .i64 0, .int .i64 0, .int .i64 0, .int .i64 0, .int .i64 0, .int .i64 0, .int .i64 0, .bool false, .int .i64 0] 33 (0, 0))
  have hQ0 := blk_new (w.alloc (.cells #[.int .i64 la, .int .i64 dy, .int .i64 mi, .slice A n cap, .int .i64 e1, .int .i64 n1, .int .i64 fe, .int .i64 fn, .int .i64 fu, .int .i64 ho, .int .i64 ha, .int .i64 ne, .int .i64 lo, .int .i64 hi, .bool up, .int .i64 st] 33 (0, 0))) (.cells #[.int .i64 0, .int .i64 0, .int .i64 0, .slice none 0 0, .int .i64 0, .int .i64 0, .int .i64 0, .int .i64 0, .int .i64 0, .int .i64 0, .int .i64 0, .int .i64 0, .int .i64 0, .int .i64 0, .bool false, .int .i64 0] 33 (0, 0))
  have hsz : (w.alloc (.cells #[.int .i64 la, .int .i64 dy, .int .i64 mi, .slice A n cap, .int .i64 e1, .int .i64 n1, .int .i64 fe, .int .i64 fn, .int .i64 fu, .int .i64 ho, .int .i64 ha, .int .i64 ne, .int .i64 lo, .int .i64 hi, .bool up, .int .i64 st] 33 (0, 0))).heap.size = w.heap.size + 1 := by simp
  rw [hsz] at hQ0
  have hB0 := bel2 w (.cells #[.int .i64 la, .int .i64 dy, .int .i64 mi, .slice A n cap, .int .i64 e1, .int .i64 n1, .int .i64 fe, .int .i64 fn, .int .i64 fu, .int .i64 ho, .int .i64 ha, .int .i64 ne, .int .i64 lo, .int .i64 hi, .bool up, .int .i64 st] 33 (0, 0)) (.cells #[.int .i64 0, .int .i64 0, .int .i64 0, .slice none 0 0, .int .i64 0, .int .i64 0, .int .i64 0, .int .i64 0, .int .i64 0, .int .i64 0, .int .i64 0, .int .i64 0, .int .i64 0, .int .i64 0, .bool false, .int .i64 0] 33 (0, 0))
  have hA0 := h0.next hB0
  have hzz : ((w.alloc (.cells #[.int .i64 la, .int .i64 dy, .int .i64 mi, .slice A n cap, .int .i64 e1, .int .i64 n1, .int .i64 fe, .int .i64 fn, .int .i64 fu, .int .i64 ho, .int .i64 ha, .int .i64 ne, .int .i64 lo, .int .i64 hi, .bool up, .int .i64 st] 33 (0, 0))).alloc (.cells #[.int .i64 0, .int .i64 0, .int .i64 0, .slice none 0 0, .int .i64 0, .int .i64 0, .int .i64 0, .int .i64 0, .int .i64 0, .int .i64 0, .int .i64 0, .int .i64 0, .int .i64 0, .int .i64 0, .bool false, .int .i64 0] 33 (0, 0))).heap.size = w.heap.size + 1 + 1 := by simp
  generalize hwa : (w.alloc (.cells #[.int .i64 la, .int .i64 dy, .int .i64 mi, .slice A n cap, .int .i64 e1, .int .i64 n1, .int .i64 fe, .int .i64 fn, .int .i64 fu, .int .i64 ho, .int .i64 ha, .int .i64 ne, .int .i64 lo, .int .i64 hi, .bool up, .int .i64 st] 33 (0, 0))).alloc (.cells #[.int .i64 0, .int .i64 0, .int .i64 0, .slice none 0 0, .int .i64 0, .int .i64 0, .int .i64 0, .int .i64 0, .int .i64 0, .int .i64 0, .int .i64 0, .int .i64 0, .int .i64 0, .int .i64 0, .bool false, .int .i64 0] 33 (0, 0)) = wa at hP0 hQ0 hzz hB0 hA0
  go_enter Tryz.func32, Tryz.ntmps32
  go_wp2_with (refine wpList_load_row rfl 33 _ rfl _ rfl _ _ (0, 0) _ hP0 Tryz.underlying33 rfl (by kernel_rfl) ?_)
  refine (sSV10_is la dy mi e1 n1 fe fn fu ho ha ne lo hi st up A cap xs _ HN.out hA0 hl HB.out).mono ?_; rintro E w1 ⟨rfl, hw1⟩
  have hP1 := blk_next hP0 hw1
  have hQ1 := blk_next hQ0 hw1
  have hB1 := bel_next hB0 hw1
  have hA1 := h0.next hB1
  clear hP0 hQ0 hA0
  go_wp2_with fail
  refine (sInE_is _ HQ.out).mono ?_; rintro E w' ⟨rfl, rfl⟩
  obtain ⟨cQ0, cQ1, cQ2, cQ3, cQ4, cQ5, cQ6, cQ7, cQ8, cQ9, cQ10, cQ11, cQ12, cQ13, cQ14, cQ15, fQ0, fQ1, fQ2, fQ3, fQ4, fQ5, fQ6, fQ7, fQ8, fQ9, fQ10, fQ11, fQ12, fQ13, fQ14, fQ15, zQ⟩ := blk16 hQ1
  go_wp2_with fail
  have hO1 : SOwn encBlock w1 w.heap.size 40 none 0 [] := SOwn.nil _ _ _
  have hQ9 := blk16_put (y0 := .int .i64 0) (y1 := .int .i64 0) (y2 := .int .i64 0) (y3 := .slice none 0 0) (y4 := .int .i64 0) (y5 := .int .i64 0) (y6 := .int .i64 0) (y7 := .int .i64 0) (y8 := .int .i64 0) (y9 := .int .i64 0) (y10 := .int .i64 0) (y11 := .int .i64 0) (y12 := .int .i64 0) (y13 := .int .i64 0) (y14 := .bool false) (y15 := .int .i64 0) hQ1
  have hO9 := SOwn.far16 hO1 hQ1 (by decide) (.int .i64 0) (.int .i64 0) (.int .i64 0) (.slice none 0 0) (.int .i64 0) (.int .i64 0) (.int .i64 0) (.int .i64 0) (.int .i64 0) (.int .i64 0) (.int .i64 0) (.int .i64 0) (.int .i64 0) (.int .i64 0) (.bool false) (.int .i64 0)
  have hB9 := store16_bel (C := (w.heap.size + 1)) hB1 (by omega) (.int .i64 0) (.int .i64 0) (.int .i64 0) (.slice none 0 0) (.int .i64 0) (.int .i64 0) (.int .i64 0) (.int .i64 0) (.int .i64 0) (.int .i64 0) (.int .i64 0) (.int .i64 0) (.int .i64 0) (.int .i64 0) (.bool false) (.int .i64 0)
  exact bodyPost_ret (v := .agg #[.int .i64 0, .int .i64 0, .int .i64 0, .slice none 0 0, .int .i64 0, .int .i64 0, .int .i64 0, .int .i64 0, .int .i64 0, .int .i64 0, .int .i64 0, .int .i64 0, .int .i64 0, .int .i64 0, .bool false, .int .i64 0]) (results_cell_row Tryz.results32 _ _ _ _ _ (0, 0) _ rfl hQ9 Tryz.underlying33 rfl (by kernel_rfl)) rfl ⟨none, 0, rfl, hO9, hB9⟩
set_option maxRecDepth 100000 in
set_option maxHeartbeats 4000000 in
theorem sSTs_yes0 (la dy mi e1 n1 fe fn fu ho ha ne lo hi st : Int) (up : Bool) (A : Option Addr) (cap : Nat) (xs : List VBlock) {M : Nat} {d0 m0 a0 t0 : Int} {u0 : Bool} {n : Nat} (w : World) (hn : xs.length = n) (h : SRow encBlock w A xs) (hl : n ≤ 2000000) (hM : M ≤ 96) (hb : siB la dy mi e1 n1 fe fn fu ho ha ne lo hi st xs = true) (hs0 : tkN la e1 n1 fe fn fu ho ne lo hi xs M (dy, mi, ha, up, st) = (d0, m0, a0, u0, t0)) :
    Calls Tryz.prog 32 #[.agg #[.int .i64 la, .int .i64 dy, .int .i64 mi, .slice A n cap, .int .i64 e1, .int .i64 n1, .int .i64 fe, .int .i64 fn, .int .i64 fu, .int .i64 ho, .int .i64 ha, .int .i64 ne, .int .i64 lo, .int .i64 hi, .bool up, .int .i64 st], .int .i64 M] w (CopyB la d0 m0 e1 n1 fe fn fu ho a0 ne lo hi t0 u0 xs w) := by
  have hv : tkV la e1 n1 fe fn fu ho ne lo hi xs (dy, mi, ha, up, st) := hb
  have HV := Lib.hid (fun k => tkV_all hv k)
  have hq : inV (M : Int) 0 96 = true := by simp only [inV, decide_eq_true_eq]; omega
  have HB := Lib.hid hb
  have HQ := Lib.hid hq
  have HM := Lib.hid hM
  have HS0 := Lib.hid hs0
  clear hb hq hv hM hs0
  have HN := Lib.hid hn
  have h0 := h
  clear hn h
  have hP0 := blk_old (blk_new w (.cells #[.int .i64 la, .int .i64 dy, .int .i64 mi, .slice A n cap, .int .i64 e1, .int .i64 n1, .int .i64 fe, .int .i64 fn, .int .i64 fu, .int .i64 ho, .int .i64 ha, .int .i64 ne, .int .i64 lo, .int .i64 hi, .bool up, .int .i64 st] 33 (0, 0))) (.cells #[.int .i64 0, .int .i64 0, .int .i64 0, .slice none 0 0, .int .i64 0, .int .i64 0, .int .i64 0, .int .i64 0, .int .i64 0, .int .i64 0, .int .i64 0, .int .i64 0, .int .i64 0, .int .i64 0, .bool false, .int .i64 0] 33 (0, 0))
  have hQ0 := blk_new (w.alloc (.cells #[.int .i64 la, .int .i64 dy, .int .i64 mi, .slice A n cap, .int .i64 e1, .int .i64 n1, .int .i64 fe, .int .i64 fn, .int .i64 fu, .int .i64 ho, .int .i64 ha, .int .i64 ne, .int .i64 lo, .int .i64 hi, .bool up, .int .i64 st] 33 (0, 0))) (.cells #[.int .i64 0, .int .i64 0, .int .i64 0, .slice none 0 0, .int .i64 0, .int .i64 0, .int .i64 0, .int .i64 0, .int .i64 0, .int .i64 0, .int .i64 0, .int .i64 0, .int .i64 0, .int .i64 0, .bool false, .int .i64 0] 33 (0, 0))
  have hsz : (w.alloc (.cells #[.int .i64 la, .int .i64 dy, .int .i64 mi, .slice A n cap, .int .i64 e1, .int .i64 n1, .int .i64 fe, .int .i64 fn, .int .i64 fu, .int .i64 ho, .int .i64 ha, .int .i64 ne, .int .i64 lo, .int .i64 hi, .bool up, .int .i64 st] 33 (0, 0))).heap.size = w.heap.size + 1 := by simp
  rw [hsz] at hQ0
  have hB0 := bel2 w (.cells #[.int .i64 la, .int .i64 dy, .int .i64 mi, .slice A n cap, .int .i64 e1, .int .i64 n1, .int .i64 fe, .int .i64 fn, .int .i64 fu, .int .i64 ho, .int .i64 ha, .int .i64 ne, .int .i64 lo, .int .i64 hi, .bool up, .int .i64 st] 33 (0, 0)) (.cells #[.int .i64 0, .int .i64 0, .int .i64 0, .slice none 0 0, .int .i64 0, .int .i64 0, .int .i64 0, .int .i64 0, .int .i64 0, .int .i64 0, .int .i64 0, .int .i64 0, .int .i64 0, .int .i64 0, .bool false, .int .i64 0] 33 (0, 0))
  have hA0 := h0.next hB0
  have hzz : ((w.alloc (.cells #[.int .i64 la, .int .i64 dy, .int .i64 mi, .slice A n cap, .int .i64 e1, .int .i64 n1, .int .i64 fe, .int .i64 fn, .int .i64 fu, .int .i64 ho, .int .i64 ha, .int .i64 ne, .int .i64 lo, .int .i64 hi, .bool up, .int .i64 st] 33 (0, 0))).alloc (.cells #[.int .i64 0, .int .i64 0, .int .i64 0, .slice none 0 0, .int .i64 0, .int .i64 0, .int .i64 0, .int .i64 0, .int .i64 0, .int .i64 0, .int .i64 0, .int .i64 0, .int .i64 0, .int .i64 0, .bool false, .int .i64 0] 33 (0, 0))).heap.size = w.heap.size + 1 + 1 := by simp
  generalize hwa : (w.alloc (.cells #[.int .i64 la, .int .i64 dy, .int .i64 mi, .slice A n cap, .int .i64 e1, .int .i64 n1, .int .i64 fe, .int .i64 fn, .int .i64 fu, .int .i64 ho, .int .i64 ha, .int .i64 ne, .int .i64 lo, .int .i64 hi, .bool up, .int .i64 st] 33 (0, 0))).alloc (.cells #[.int .i64 0, .int .i64 0, .int .i64 0, .slice none 0 0, .int .i64 0, .int .i64 0, .int .i64 0, .int .i64 0, .int .i64 0, .int .i64 0, .int .i64 0, .int .i64 0, .int .i64 0, .int .i64 0, .bool false, .int .i64 0] 33 (0, 0)) = wa at hP0 hQ0 hzz hB0 hA0
  go_enter Tryz.func32, Tryz.ntmps32
  go_wp2_with (refine wpList_load_row rfl 33 _ rfl _ rfl _ _ (0, 0) _ hP0 Tryz.underlying33 rfl (by kernel_rfl) ?_)
  refine (sSV10_is la dy mi e1 n1 fe fn fu ho ha ne lo hi st up A cap xs _ HN.out hA0 hl HB.out).mono ?_; rintro E w1 ⟨rfl, hw1⟩
  have hP1 := blk_next hP0 hw1
  have hQ1 := blk_next hQ0 hw1
  have hB1 := bel_next hB0 hw1
  have hA1 := h0.next hB1
  clear hP0 hQ0 hA0
  go_wp2_with fail
  refine (sInE_is _ HQ.out).mono ?_; rintro E w' ⟨rfl, rfl⟩
  go_wp2_with (refine wpList_load_row rfl 33 _ rfl _ rfl _ _ (0, 0) _ hP1 Tryz.underlying33 rfl (by kernel_rfl) ?_)
  refine (sCopy_is la dy mi e1 n1 fe fn fu ho ha ne lo hi st up A cap xs _ HN.out hA1 hl).mono ?_; rintro E w2 ⟨A2, cp2, rfl, hO2, hw2⟩
  rw [HN.out]
  have hQ2 := blk_next hQ1 hw2
  have hB2 := bel_next hB1 hw2
  have hO3 := (SOwn.mono (base' := w.heap.size) hO2 hB1.size).alloc (.cells #[.int .i64 la, .int .i64 dy, .int .i64 mi, .slice A2 n cp2, .int .i64 e1, .int .i64 n1, .int .i64 fe, .int .i64 fn, .int .i64 fu, .int .i64 ho, .int .i64 ha, .int .i64 ne, .int .i64 lo, .int .i64 hi, .bool up, .int .i64 st] 33 (0, 0))
  have hR3 := blk_new w2 (.cells #[.int .i64 la, .int .i64 dy, .int .i64 mi, .slice A2 n cp2, .int .i64 e1, .int .i64 n1, .int .i64 fe, .int .i64 fn, .int .i64 fu, .int .i64 ho, .int .i64 ha, .int .i64 ne, .int .i64 lo, .int .i64 hi, .bool up, .int .i64 st] 33 (0, 0))
  have hQ3 := blk_old hQ2 (.cells #[.int .i64 la, .int .i64 dy, .int .i64 mi, .slice A2 n cp2, .int .i64 e1, .int .i64 n1, .int .i64 fe, .int .i64 fn, .int .i64 fu, .int .i64 ho, .int .i64 ha, .int .i64 ne, .int .i64 lo, .int .i64 hi, .bool up, .int .i64 st] 33 (0, 0))
  have hzQ := blk_lt hQ2
  have hB3 := hB2.alloc hB2.size (.cells #[.int .i64 la, .int .i64 dy, .int .i64 mi, .slice A2 n cp2, .int .i64 e1, .int .i64 n1, .int .i64 fe, .int .i64 fn, .int .i64 fu, .int .i64 ho, .int .i64 ha, .int .i64 ne, .int .i64 lo, .int .i64 hi, .bool up, .int .i64 st] 33 (0, 0))
  clear hP1 hQ1 hB1 hA1 hO2 hQ2 hB2
  go_wp2_with fail
  generalize w2.alloc (.cells #[.int .i64 la, .int .i64 dy, .int .i64 mi, .slice A2 n cp2, .int .i64 e1, .int .i64 n1, .int .i64 fe, .int .i64 fn, .int .i64 fu, .int .i64 ho, .int .i64 ha, .int .i64 ne, .int .i64 lo, .int .i64 hi, .bool up, .int .i64 st] 33 (0, 0)) = w3 at hR3 hQ3 hB3 hO3 ⊢
  generalize hbR : w2.heap.size = bR at hR3 hzQ ⊢
  go_loopw [6] (fun kv wr => ∃ (k : Nat) (d m a t : Int) (u : Bool) (A2 : Option Addr) (cp2 : Nat), kv = .int .i64 k ∧ k ≤ M ∧ Hid (tkN la e1 n1 fe fn fu ho ne lo hi xs k (dy, mi, ha, up, st) = (d, m, a, u, t)) ∧ wr.heap[bR]? = some (.cells #[.int .i64 la, .int .i64 d, .int .i64 m, .slice A2 n cp2, .int .i64 e1, .int .i64 n1, .int .i64 fe, .int .i64 fn, .int .i64 fu, .int .i64 ho, .int .i64 a, .int .i64 ne, .int .i64 lo, .int .i64 hi, .bool u, .int .i64 t] 33 (0, 0)) ∧ wr.heap[w.heap.size + 1]? = some (.cells #[.int .i64 0, .int .i64 0, .int .i64 0, .slice none 0 0, .int .i64 0, .int .i64 0, .int .i64 0, .int .i64 0, .int .i64 0, .int .i64 0, .int .i64 0, .int .i64 0, .int .i64 0, .int .i64 0, .bool false, .int .i64 0] 33 (0, 0)) ∧ SOwn encBlock wr w.heap.size 40 A2 cp2 xs ∧ Below w.heap.size w wr) (fun kv _ => (M - intOf kv).toNat)
  case atStart => exact ⟨0, dy, mi, ha, st, up, A2, cp2, rfl, by omega, (by show _ = _; rfl), hR3, hQ3, hO3, hB3⟩
  case round =>
    clear hR3 hQ3 hB3 hO3
    obtain ⟨k, d, m, a, t, u, A2, cp2, rfl, hk, HS, hR, hQ, hO, hB⟩ := hrel
    have hM9 := HM.out
    by_cases hlt : k < M
    · have hlt2 : (k : Int) < (M : Int) := by omega
      obtain ⟨⟨d9, m9, a9, u9, t9⟩, hs9⟩ : ∃ s, tk1 la e1 n1 fe fn fu ho ne lo hi xs (d, m, a, u, t) = s := ⟨_, rfl⟩
      have HVk := HV.out k
      rw [HS.out] at HVk
      have hT9 := siT_yes (M := 1) (up := u) HVk (by omega) hs9
      have HS9 := Lib.hid hs9
      have HT9 := Lib.hid hT9
      clear hs9 hT9 HVk
      go_wp2_with (refine wpList_load_row rfl 33 _ rfl _ rfl _ _ (0, 0) _ hR Tryz.underlying33 rfl (by kernel_rfl) ?_)
      refine (sST_is la d m e1 n1 fe fn fu ho a ne lo hi t u A2 cp2 xs _ HN.out hO.row hl HT9.out).mono ?_; rintro E w5 ⟨A3, cp3, rfl, hO5, hw5⟩
      rw [HN.out]
      have hR5 := blk_next hR hw5
      have hQ5 := blk_next hQ hw5
      have hB5 := bel_next hB hw5
      have hO6 := SOwn.mono (base' := w.heap.size) hO5 hB.size
      obtain ⟨cR0, cR1, cR2, cR3, cR4, cR5, cR6, cR7, cR8, cR9, cR10, cR11, cR12, cR13, cR14, cR15, fR0, fR1, fR2, fR3, fR4, fR5, fR6, fR7, fR8, fR9, fR10, fR11, fR12, fR13, fR14, fR15, zR⟩ := blk16 hR5
      go_wp2_with fail
      have hR7 := blk16_put (y0 := .int .i64 la) (y1 := .int .i64 d9) (y2 := .int .i64 m9) (y3 := .slice A3 n cp3) (y4 := .int .i64 e1) (y5 := .int .i64 n1) (y6 := .int .i64 fe) (y7 := .int .i64 fn) (y8 := .int .i64 fu) (y9 := .int .i64 ho) (y10 := .int .i64 a9) (y11 := .int .i64 ne) (y12 := .int .i64 lo) (y13 := .int .i64 hi) (y14 := .bool u9) (y15 := .int .i64 t9) hR5
      have hQ7 := blk_store16 hQ5 (show w.heap.size + 1 ≠ bR by omega) (.int .i64 la) (.int .i64 d9) (.int .i64 m9) (.slice A3 n cp3) (.int .i64 e1) (.int .i64 n1) (.int .i64 fe) (.int .i64 fn) (.int .i64 fu) (.int .i64 ho) (.int .i64 a9) (.int .i64 ne) (.int .i64 lo) (.int .i64 hi) (.bool u9) (.int .i64 t9)
      have hO7 := SOwn.far16 hO6 hR5 (by decide) (.int .i64 la) (.int .i64 d9) (.int .i64 m9) (.slice A3 n cp3) (.int .i64 e1) (.int .i64 n1) (.int .i64 fe) (.int .i64 fn) (.int .i64 fu) (.int .i64 ho) (.int .i64 a9) (.int .i64 ne) (.int .i64 lo) (.int .i64 hi) (.bool u9) (.int .i64 t9)
      have hB7 := store16_bel (C := bR) hB5 (by omega) (.int .i64 la) (.int .i64 d9) (.int .i64 m9) (.slice A3 n cp3) (.int .i64 e1) (.int .i64 n1) (.int .i64 fe) (.int .i64 fn) (.int .i64 fu) (.int .i64 ho) (.int .i64 a9) (.int .i64 ne) (.int .i64 lo) (.int .i64 hi) (.bool u9) (.int .i64 t9)
      generalize (World.setCell (World.setCell (World.setCell (World.setCell (World.setCell (World.setCell (World.setCell (World.setCell (World.setCell (World.setCell (World.setCell (World.setCell (World.setCell (World.setCell (World.setCell (World.setCell w5 ⟨bR, 0, none⟩ (.int .i64 la)) ⟨bR, 1, none⟩ (.int .i64 d9)) ⟨bR, 2, none⟩ (.int .i64 m9)) ⟨bR, 3, none⟩ (.slice A3 n cp3)) ⟨bR, 4, none⟩ (.int .i64 e1)) ⟨bR, 5, none⟩ (.int .i64 n1)) ⟨bR, 6, none⟩ (.int .i64 fe)) ⟨bR, 7, none⟩ (.int .i64 fn)) ⟨bR, 8, none⟩ (.int .i64 fu)) ⟨bR, 9, none⟩ (.int .i64 ho)) ⟨bR, 10, none⟩ (.int .i64 a9)) ⟨bR, 11, none⟩ (.int .i64 ne)) ⟨bR, 12, none⟩ (.int .i64 lo)) ⟨bR, 13, none⟩ (.int .i64 hi)) ⟨bR, 14, none⟩ (.bool u9)) ⟨bR, 15, none⟩ (.int .i64 t9)) = w7 at hR7 hQ7 hO7 hB7 ⊢
      go_roundw
      case rel => exact ⟨k + 1, d9, m9, a9, t9, u9, A3, cp3, by go_num, by omega, (by show tk1 _ _ _ _ _ _ _ _ _ _ _ (tkN la e1 n1 fe fn fu ho ne lo hi xs k _) = _; rw [HS.out]; exact HS9.out), hR7, hQ7, hO7, hB7⟩
      case measure => simp [intOf]; omega
    · obtain rfl : k = M := by omega
      have h9 := HS.out
      rw [HS0.out] at h9
      simp only [Prod.mk.injEq] at h9
      obtain ⟨rfl, rfl, rfl, rfl, rfl⟩ := h9
      clear HS HS0
      have hlt2 : ¬ (k : Int) < (k : Int) := by omega
      obtain ⟨cQ0, cQ1, cQ2, cQ3, cQ4, cQ5, cQ6, cQ7, cQ8, cQ9, cQ10, cQ11, cQ12, cQ13, cQ14, cQ15, fQ0, fQ1, fQ2, fQ3, fQ4, fQ5, fQ6, fQ7, fQ8, fQ9, fQ10, fQ11, fQ12, fQ13, fQ14, fQ15, zQ⟩ := blk16 hQ
      go_wp2_with (refine wpList_load_row rfl 33 _ rfl _ rfl _ _ (0, 0) _ hR Tryz.underlying33 rfl (by kernel_rfl) ?_)
      have hQ9 := blk16_put (y0 := .int .i64 la) (y1 := .int .i64 d0) (y2 := .int .i64 m0) (y3 := .slice A2 n cp2) (y4 := .int .i64 e1) (y5 := .int .i64 n1) (y6 := .int .i64 fe) (y7 := .int .i64 fn) (y8 := .int .i64 fu) (y9 := .int .i64 ho) (y10 := .int .i64 a0) (y11 := .int .i64 ne) (y12 := .int .i64 lo) (y13 := .int .i64 hi) (y14 := .bool u0) (y15 := .int .i64 t0) hQ
      have hO9 := SOwn.far16 hO hQ (by decide) (.int .i64 la) (.int .i64 d0) (.int .i64 m0) (.slice A2 n cp2) (.int .i64 e1) (.int .i64 n1) (.int .i64 fe) (.int .i64 fn) (.int .i64 fu) (.int .i64 ho) (.int .i64 a0) (.int .i64 ne) (.int .i64 lo) (.int .i64 hi) (.bool u0) (.int .i64 t0)
      have hB9 := store16_bel (C := (w.heap.size + 1)) hB (by omega) (.int .i64 la) (.int .i64 d0) (.int .i64 m0) (.slice A2 n cp2) (.int .i64 e1) (.int .i64 n1) (.int .i64 fe) (.int .i64 fn) (.int .i64 fu) (.int .i64 ho) (.int .i64 a0) (.int .i64 ne) (.int .i64 lo) (.int .i64 hi) (.bool u0) (.int .i64 t0)
      exact bodyPost_ret (v := .agg #[.int .i64 la, .int .i64 d0, .int .i64 m0, .slice A2 n cp2, .int .i64 e1, .int .i64 n1, .int .i64 fe, .int .i64 fn, .int .i64 fu, .int .i64 ho, .int .i64 a0, .int .i64 ne, .int .i64 lo, .int .i64 hi, .bool u0, .int .i64 t0]) (results_cell_row Tryz.results32 _ _ _ _ _ (0, 0) _ rfl hQ9 Tryz.underlying33 rfl (by kernel_rfl)) rfl ⟨A2, cp2, by rw [HN.out], hO9, hB9⟩
theorem sSTs_is (la dy mi e1 n1 fe fn fu ho ha ne lo hi st : Int) (up : Bool) (A : Option Addr) (cap : Nat) (xs : List VBlock) {many : Int} {r0 r1 r2 r3 r4 r5 r6 r7 r8 r9 r10 r11 r12 r13 : Int} {rb : Bool} {l : List VBlock} {n : Nat} (w : World) (hn : xs.length = n) (h : SRow encBlock w A xs) (hl : n ≤ 2000000) (hr : siT la dy mi e1 n1 fe fn fu ho ha ne lo hi st up xs many = (r0, r1, r2, r3, r4, r5, r6, r7, r8, r9, r10, r11, r12, r13, rb, l)) : Calls Tryz.prog 32 #[.agg #[.int .i64 la, .int .i64 dy, .int .i64 mi, .slice A n cap, .int .i64 e1, .int .i64 n1, .int .i64 fe, .int .i64 fn, .int .i64 fu, .int .i64 ho, .int .i64 ha, .int .i64 ne, .int .i64 lo, .int .i64 hi, .bool up, .int .i64 st], .int .i64 many] w (CopyB r0 r1 r2 r3 r4 r5 r6 r7 r8 r9 r10 r11 r12 r13 rb l w) := by
  cases hb : siB la dy mi e1 n1 fe fn fu ho ha ne lo hi st xs
  · rw [siT_no (.inl hb)] at hr
    unfold siZ at hr
    simp only [Prod.mk.injEq] at hr
    obtain ⟨rfl, rfl, rfl, rfl, rfl, rfl, rfl, rfl, rfl, rfl, rfl, rfl, rfl, rfl, rfl, rfl⟩ := hr
    exact sSTs_bad1 la dy mi e1 n1 fe fn fu ho ha ne lo hi st up A cap xs w hn h hl hb
  · cases hq : inV many 0 96
    · rw [siT_no (.inr hq)] at hr
      unfold siZ at hr
      simp only [Prod.mk.injEq] at hr
      obtain ⟨rfl, rfl, rfl, rfl, rfl, rfl, rfl, rfl, rfl, rfl, rfl, rfl, rfl, rfl, rfl, rfl⟩ := hr
      exact sSTs_bad2 la dy mi e1 n1 fe fn fu ho ha ne lo hi st up A cap xs w hn h hl hb hq
    · simp only [inV, decide_eq_true_eq] at hq
      obtain ⟨M, rfl⟩ : ∃ M : Nat, many = (M : Int) := ⟨many.toNat, by omega⟩
      obtain ⟨⟨d0, m0, a0, u0, t0⟩, hs0⟩ : ∃ s, tkN la e1 n1 fe fn fu ho ne lo hi xs M (dy, mi, ha, up, st) = s := ⟨_, rfl⟩
      rw [siT_yes hb (by omega) hs0] at hr
      simp only [Prod.mk.injEq] at hr
      obtain ⟨rfl, rfl, rfl, rfl, rfl, rfl, rfl, rfl, rfl, rfl, rfl, rfl, rfl, rfl, rfl, rfl⟩ := hr
      exact sSTs_yes0 la dy mi e1 n1 fe fn fu ho ha ne lo hi st up A cap xs w hn h hl (by omega) hb hs0
end Go.Proofs.YtbklgpghonigjaaGreat
