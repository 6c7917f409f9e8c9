/- Contracts of chapter 1: weeks of a year, dates of weeks. -/
import Derived.Test.YtkeghnbckndgfaaCe
namespace Go.Proofs.Ytkeghnbckndgfaa
open Go.ChangeShapes Go.WideShapes Go.ChangeAt Go.RowKit
set_option linter.unusedSimpArgs false

theorem iWS_any (y : Int) (w : World) :
    Calls Try.prog 22 #[.int .i64 y] w fun e w' => e = .returned (.int .i64 (weeks y)) ∧ Below w.heap.size w w' := by
  by_cases h : 1 ≤ y ∧ y ≤ 4000
  · have hv := val_dec28 h.1 h.2
    have d28 := dec28_week h.1 h.2
    have HD := Lib.hid (And.intro h d28)
    clear h d28
    go_enter Try.func22, Try.ntmps22
    go_wp2_with fail
    refine (iWO_t _ _ _ _ hv).mono ?_; rintro e w1 ⟨Y, rfl, q1, q2, q3, q4, hw⟩
    obtain rfl := fst_unique q1 q2 HD.out.2.1 HD.out.2.2.1
    go_wp2
    go_ret
    exact ⟨ret_int (by have := HD.out.2.2.2; omega), hw⟩
  · have hv : valB y 12 28 = false := by
      rw [Bool.eq_false_iff]; intro hv; have := valB_in hv; omega
    have e : weeks y = 0 := by rw [weeks, if_neg h]
    have HE := Lib.hid e
    clear h e
    go_enter Try.func22, Try.ntmps22
    go_wp2_with fail
    refine (iWO_f _ _ _ _ hv).mono ?_; rintro e w1 ⟨rfl, hw⟩
    go_wp2
    go_ret
    exact ⟨ret_int (by rw [HE.out]), hw⟩
def wkOk (y k d : Int) : Prop := 1 ≤ k ∧ k ≤ weeks y ∧ 1 ≤ d ∧ d ≤ 7
theorem wk_year {y k d : Int} (h : wkOk y k d) : 1 ≤ y ∧ y ≤ 4000 := by
  by_cases c : 1 ≤ y ∧ y ≤ 4000
  · exact c
  · obtain ⟨h1, h2, _⟩ := h
    rw [weeks, if_neg c] at h2; omega
theorem wk_in {y k d : Int} (h : wkOk y k d) : 0 ≤ fst y + 7 * (k - 1) + d - 1 ∧ fst y + 7 * (k - 1) + d - 1 ≤ 1460969 ∧ fst y + 7 * (k - 1) + d - 1 < fst (y + 1) ∧ fst y ≤ fst y + 7 * (k - 1) + d - 1 ∧ k ≤ 54 := by
  have hy := wk_year h
  obtain ⟨h1, h2, h3, h4⟩ := h
  rw [weeks_in hy.1 hy.2] at h2
  have b1 := fst_bd hy.1 (by omega)
  have b2 := fst_bd (y := y + 1) (by omega) (by omega)
  have s1 := fst_7 y
  have s2 := fst_7 (y + 1)
  have b3 : fst (y + 1) ≤ fst y + 380 := by have := dby_succ y hy.1 hy.2; unfold fst; split at this <;> omega
  omega
theorem iWDt_f (y k d : Int) (w : World) (h : ¬ wkOk y k d) :
    Calls Try.prog 11 #[.int .i64 y, .int .i64 k, .int .i64 d] w (DateNone w) := by
  by_cases h1 : k < 1
  · clear h
    go_enter Try.func11, Try.ntmps11
    go_wp2
    exact bodyPost_ret (v := .tuple #[.agg #[.int .i64 0, .int .i64 0, .int .i64 0], .bool false]) (by simp [results, Try.results11, go_sem]) rfl ⟨rfl, bel1 _ _⟩
  · by_cases h2 : weeks y < k
    · clear h
      go_enter Try.func11, Try.ntmps11
      go_wp2_with fail
      refine (iWS_any _ _).mono ?_; rintro e w1 ⟨rfl, hw1⟩
      obtain ⟨hH, hB⟩ := ownb hw1
      obtain ⟨g0, g1, g2, e0, e1, e2, hz2⟩ := blk3 hH
      go_wp2
      exact bodyPost_ret (v := .tuple #[.agg #[.int .i64 0, .int .i64 0, .int .i64 0], .bool false]) (by simp [results, Try.results11, go_sem, g0, g1, g2]) rfl ⟨rfl, (((hB.setCell (p := ⟨_, _, _⟩) (by simp) _).setCell (p := ⟨_, _, _⟩) (by simp) _).setCell (p := ⟨_, _, _⟩) (by simp) _)⟩
    · by_cases h3 : d < 1
      · clear h
        go_enter Try.func11, Try.ntmps11
        go_wp2_with fail
        refine (iWS_any _ _).mono ?_; rintro e w1 ⟨rfl, hw1⟩
        obtain ⟨hH, hB⟩ := ownb hw1
        obtain ⟨g0, g1, g2, e0, e1, e2, hz2⟩ := blk3 hH
        go_wp2
        exact bodyPost_ret (v := .tuple #[.agg #[.int .i64 0, .int .i64 0, .int .i64 0], .bool false]) (by simp [results, Try.results11, go_sem, g0, g1, g2]) rfl ⟨rfl, (((hB.setCell (p := ⟨_, _, _⟩) (by simp) _).setCell (p := ⟨_, _, _⟩) (by simp) _).setCell (p := ⟨_, _, _⟩) (by simp) _)⟩
      · have h4 : 7 < d := by
          by_cases c : 7 < d
          · exact c
          · exact absurd ⟨by omega, by omega, by omega, by omega⟩ h
        clear h
        go_enter Try.func11, Try.ntmps11
        go_wp2_with fail
        refine (iWS_any _ _).mono ?_; rintro e w1 ⟨rfl, hw1⟩
        obtain ⟨hH, hB⟩ := ownb hw1
        obtain ⟨g0, g1, g2, e0, e1, e2, hz2⟩ := blk3 hH
        go_wp2
        exact bodyPost_ret (v := .tuple #[.agg #[.int .i64 0, .int .i64 0, .int .i64 0], .bool false]) (by simp [results, Try.results11, go_sem, g0, g1, g2]) rfl ⟨rfl, (((hB.setCell (p := ⟨_, _, _⟩) (by simp) _).setCell (p := ⟨_, _, _⟩) (by simp) _).setCell (p := ⟨_, _, _⟩) (by simp) _)⟩
set_option maxHeartbeats 4000000 in
theorem iWDt_t (y k d : Int) (w : World) (h : wkOk y k d) :
    Calls Try.prog 11 #[.int .i64 y, .int .i64 k, .int .i64 d] w (DateFull (fst y + 7 * (k - 1) + d - 1) w) := by
  have hy := wk_year h
  have hi := wk_in h
  have hj := val_jan4 hy.1 hy.2
  have en : num y 1 4 + ((k - 1) * 7 + d - (num y 1 4 % 7 + 1)) = fst y + 7 * (k - 1) + d - 1 := by
    rw [num_jan4]; unfold fst; omega
  have hn := num_bd hj
  have HQ := Lib.hid (And.intro en hi)
  obtain ⟨h1, h2, h3, h4⟩ := h
  obtain ⟨y1, y2⟩ := hy
  have k54 := hi.2.2.2.2
  have ew1 : IntKind.i64.wrap (k - 1) = k - 1 := IntWalk.i64_in _ (by omega)
  have ew2 : IntKind.i64.wrap ((k - 1) * 7) = (k - 1) * 7 := IntWalk.i64_in _ (by omega)
  have ew3 : IntKind.i64.wrap ((k - 1) * 7 + d) = (k - 1) * 7 + d := IntWalk.i64_in _ (by omega)
  have ew4 : IntKind.i64.wrap ((k - 1) * 7 + d - (num y 1 4 % 7 + 1)) = (k - 1) * 7 + d - (num y 1 4 % 7 + 1) := IntWalk.i64_in _ (by omega)
  have hr0 : 0 ≤ num y 1 4 + ((k - 1) * 7 + d - (num y 1 4 % 7 + 1)) := by rw [en]; exact hi.1
  have hr1 : num y 1 4 + ((k - 1) * 7 + d - (num y 1 4 % 7 + 1)) ≤ 1460969 := by rw [en]; exact hi.2.1
  have HR := Lib.hid (And.intro hr0 hr1)
  clear en hi hr0 hr1 hn
  go_enter Try.func11, Try.ntmps11
  go_wp2_with fail
  refine (iWS_any _ _).mono ?_; rintro e w1 ⟨rfl, hw1⟩
  obtain ⟨hH, hB⟩ := ownb hw1
  have hz0 := blk_lt hH
  go_wp2_with fail
  go_region_held3 (fun w' => w'.cell? ⟨w1.heap.size, 0, none⟩ = some (.int .i64 y) ∧ w'.cell? ⟨w1.heap.size, 1, none⟩ = some (.int .i64 1) ∧ w'.cell? ⟨w1.heap.size, 2, none⟩ = some (.int .i64 4))
    (first
      | (refine ⟨?_, ?_, ?_⟩ <;> (simp; done))
      | (go_split_ands; exact keepc3 (by first | assumption | (simp; done)) (by first | assumption | (simp; done)) (by first | assumption | (simp; done)) hw2)
      | (go_split_ands; exact keepc3 (by first | assumption | (simp; done)) (by first | assumption | (simp; done)) (by first | assumption | (simp; done)) hw3)
      | (go_split_ands; (refine ⟨?_, ?_, ?_⟩ <;> (rw [World.cell?_setCell_far _ _ _ _ (by first | (simp; done) | (simp; omega)), World.cell?_setCell_far _ _ _ _ (by first | (simp; done) | (simp; omega)), World.cell?_setCell_far _ _ _ _ (by first | (simp; done) | (simp; omega))]; assumption)))
      | go_keep)
    (first | (go_at_call 10; refine (iWD_t _ _ _ _ hj).mono ?_; rintro e w2 ⟨rfl, hw2⟩; have hH2 := blk_next (blk_old hH _) (undrew hw2); have hB2 := bel_next (hB.alloc (by omega) _) (undrew hw2)) | (go_at_call 9; refine (iDA_t _ _ _ _ _ hj HR.out.1 HR.out.2).mono ?_; rintro e w3 ⟨a, b, c, rfl, hv, hq, hw3⟩; have hH3 := blk_next hH2 hw3; have hB3 := bel_next hB2 hw3; obtain ⟨g0, g1, g2, e0, e1, e2, hz2⟩ := blk3 hH3))
  go_wp2_with fail
  exact bodyPost_ret (v := .tuple #[.agg #[.int .i64 a, .int .i64 b, .int .i64 c], .bool true]) (by simp [results, Try.results11, go_sem, g0, g1, g2]) rfl ⟨a, b, c, rfl, hv, hq.trans HQ.out.1, (((hB3.setCell (p := ⟨_, _, _⟩) (by simp) _).setCell (p := ⟨_, _, _⟩) (by simp) _).setCell (p := ⟨_, _, _⟩) (by simp) _)⟩
end Go.Proofs.Ytkeghnbckndgfaa
