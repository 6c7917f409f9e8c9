/- Contracts of chapter 7: faces. -/
import Derived.Test.YtigndpajpofofaaZv
import Derived.Test.YtigndpajpofofaaGFace
import Derived.Test.YtigndpajpofofaaGRay
namespace Go.Proofs.Ytigndpajpofofaa
open Go Go.ChangeShapes Go.WideShapes Go.ChangeAt Go.RowKit
set_option linter.unusedSimpArgs false
set_option linter.unusedVariables false

set_option maxHeartbeats 4000000 in
theorem iFC_any (e n u : Int) (w : World) :
    Calls Try.prog 57 #[.agg #[.int .i64 e, .int .i64 n, .int .i64 u]] w fun E w' => E = .returned (.bool (fcB e n u)) ∧ Below w.heap.size w w' := by
  by_cases hz : e = 0 ∧ n = 0 ∧ u = 0
  · obtain ⟨rfl, rfl, rfl⟩ := hz
    go_enter Try.func57, Try.ntmps57
    go_wp2_with (go_at_call 55; refine (iIn7 _ _ _ _).mono ?_; rintro E w' ⟨rfl, rfl⟩)
    all_goals go_ret
    all_goals exact ⟨ret_bool (by simp_all [fcB, inV]), bel1 _ _⟩
  · have HZ := Lib.hid hz
    clear hz
    go_enter Try.func57, Try.ntmps57
    go_wp2_with (go_at_call 55; refine (iIn7 _ _ _ _).mono ?_; rintro E w' ⟨rfl, rfl⟩)
    all_goals go_ret
    all_goals have hz := HZ.out
    all_goals exact ⟨ret_bool (by first | (simp_all [fcB, inV]; done) | (rw [Bool.eq_iff_iff]; simp_all [fcB, inV]; omega)), bel1 _ _⟩
theorem iFC_is {e n u : Int} {r : Bool} (w : World) (h_ : fcB e n u = r) : Calls Try.prog 57 #[.agg #[.int .i64 e, .int .i64 n, .int .i64 u]] w fun E w' => E = .returned (.bool r) ∧ Below w.heap.size w w' := by subst h_; exact iFC_any e n u w
set_option maxHeartbeats 4000000 in
theorem sFC_any (e n u : Int) (w : World) :
    Calls Try.prog 23 #[.agg #[.int .i64 e, .int .i64 n, .int .i64 u]] w fun E w' => E = .returned (.bool (fcB e n u)) ∧ Below w.heap.size w w' := by
  by_cases hz : e = 0 ∧ n = 0 ∧ u = 0
  · obtain ⟨rfl, rfl, rfl⟩ := hz
    go_enter Try.func23, Try.ntmps23
    go_wp2_with (go_at_call 20; refine (sIn7 _ _ _ _).mono ?_; rintro E w' ⟨rfl, rfl⟩)
    all_goals go_ret
    all_goals exact ⟨ret_bool (by simp_all [fcB, inV]), bel1 _ _⟩
  · have HZ := Lib.hid hz
    clear hz
    go_enter Try.func23, Try.ntmps23
    go_wp2_with (go_at_call 20; refine (sIn7 _ _ _ _).mono ?_; rintro E w' ⟨rfl, rfl⟩)
    all_goals go_ret
    all_goals have hz := HZ.out
    all_goals exact ⟨ret_bool (by first | (simp_all [fcB, inV]; done) | (rw [Bool.eq_iff_iff]; simp_all [fcB, inV]; omega)), bel1 _ _⟩
theorem sFC_is {e n u : Int} {r : Bool} (w : World) (h_ : fcB e n u = r) : Calls Try.prog 23 #[.agg #[.int .i64 e, .int .i64 n, .int .i64 u]] w fun E w' => E = .returned (.bool r) ∧ Below w.heap.size w w' := by subst h_; exact sFC_any e n u w
set_option maxHeartbeats 4000000 in
theorem iRV7_any (e n u : Int) (w : World) :
    Calls Try.prog 83 #[.agg #[.int .i64 e, .int .i64 n, .int .i64 u]] w fun E w' => E = .returned (.bool (ryB e n u)) ∧ Below w.heap.size w w' := by
  go_enter Try.func83, Try.ntmps83
  go_wp2_with (go_at_call 55; refine (iIn7 _ _ _ _).mono ?_; rintro E w' ⟨rfl, rfl⟩)
  all_goals go_ret
  all_goals exact ⟨ret_bool (by first | (simp_all [ryB, inV]; done) | (rw [Bool.eq_iff_iff]; simp_all [ryB, inV]; omega)), bel1 _ _⟩
theorem iRV7_is {e n u : Int} {r : Bool} (w : World) (h_ : ryB e n u = r) : Calls Try.prog 83 #[.agg #[.int .i64 e, .int .i64 n, .int .i64 u]] w fun E w' => E = .returned (.bool r) ∧ Below w.heap.size w w' := by subst h_; exact iRV7_any e n u w
set_option maxHeartbeats 4000000 in
theorem sRV7_any (e n u : Int) (w : World) :
    Calls Try.prog 71 #[.agg #[.int .i64 e, .int .i64 n, .int .i64 u]] w fun E w' => E = .returned (.bool (ryB e n u)) ∧ Below w.heap.size w w' := by
  go_enter Try.func71, Try.ntmps71
  go_wp2_with (go_at_call 20; refine (sIn7 _ _ _ _).mono ?_; rintro E w' ⟨rfl, rfl⟩)
  all_goals go_ret
  all_goals exact ⟨ret_bool (by first | (simp_all [ryB, inV]; done) | (rw [Bool.eq_iff_iff]; simp_all [ryB, inV]; omega)), bel1 _ _⟩
theorem sRV7_is {e n u : Int} {r : Bool} (w : World) (h_ : ryB e n u = r) : Calls Try.prog 71 #[.agg #[.int .i64 e, .int .i64 n, .int .i64 u]] w fun E w' => E = .returned (.bool r) ∧ Below w.heap.size w w' := by subst h_; exact sRV7_any e n u w
set_option maxHeartbeats 4000000 in
theorem iFG_is {e n u re rn ru : Int} {r : Int} (w : World) (h_ : fgI e n u re rn ru = r) :
    Calls Try.prog 87 #[.agg #[.int .i64 e, .int .i64 n, .int .i64 u], .agg #[.int .i64 re, .int .i64 rn, .int .i64 ru]] w fun E w' => E = .returned (.int .i64 r) ∧ Below w.heap.size w w' := by
  cases hf : fcB e n u
  · rw [fgI_no1 hf] at h_
    subst h_
    have HF := Lib.hid hf
    clear hf
    go_enter Try.func87, Try.ntmps87
    go_wp2_with fail
    refine (iFC_is _ HF.out).mono ?_; rintro E w1 ⟨rfl, hw1⟩
    obtain ⟨hP1, hQ1, hB1⟩ := ownb2 hw1
    go_wp2
    go_ret
    exact ⟨rfl, hB1⟩
  · cases hr : ryB re rn ru
    · rw [fgI_no2 hr] at h_
      subst h_
      have HF := Lib.hid hf
      have HR := Lib.hid hr
      clear hf hr
      go_enter Try.func87, Try.ntmps87
      go_wp2_with fail
      refine (iFC_is _ HF.out).mono ?_; rintro E w1 ⟨rfl, hw1⟩
      obtain ⟨hP1, hQ1, hB1⟩ := ownb2 hw1
      obtain ⟨b0, b1, b2, _, _, _, z2⟩ := blk3 hQ1
      go_wp2_with fail
      refine (iRV7_is _ HR.out).mono ?_; rintro E w2 ⟨rfl, hw2⟩
      have hP2 := blk_next hP1 hw2
      have hQ2 := blk_next hQ1 hw2
      have hB2 := bel_next hB1 hw2
      go_wp2
      go_ret
      exact ⟨rfl, hB2⟩
    · rw [fgI_yes hf hr] at h_
      obtain ⟨⟨p0, p1⟩, ⟨p2, p3⟩, ⟨p4, p5⟩⟩ := dot_bd hf hr
      have hD := Lib.hid h_
      clear h_
      have HF := Lib.hid hf
      have HR := Lib.hid hr
      clear hf hr
      go_enter Try.func87, Try.ntmps87
      go_wp2_with fail
      refine (iFC_is _ HF.out).mono ?_; rintro E w1 ⟨rfl, hw1⟩
      obtain ⟨hP1, hQ1, hB1⟩ := ownb2 hw1
      obtain ⟨b0, b1, b2, _, _, _, z2⟩ := blk3 hQ1
      go_wp2_with fail
      refine (iRV7_is _ HR.out).mono ?_; rintro E w2 ⟨rfl, hw2⟩
      have hP2 := blk_next hP1 hw2
      have hQ2 := blk_next hQ1 hw2
      have hB2 := bel_next hB1 hw2
      obtain ⟨a0, a1, a2, _, _, _, _⟩ := blk3 hP2
      obtain ⟨b0, b1, b2, _, _, _, _⟩ := blk3 hQ2
      by_cases hd : 0 ≤ dotI e n u re rn ru
      · have hr1 : r = dotI e n u re rn ru := by have := hD.out; omega
        unfold dotI at hd hr1
        go_wp2
        go_ret
        exact ⟨ret_int (by rw [hr1]), hB2⟩
      · have hr1 : r = 0 := by have := hD.out; omega
        subst hr1
        unfold dotI at hd
        go_wp2
        go_ret
        exact ⟨rfl, hB2⟩
set_option maxHeartbeats 4000000 in
theorem sFG_is {e n u re rn ru : Int} {r : Int} (w : World) (h_ : fgI e n u re rn ru = r) :
    Calls Try.prog 50 #[.agg #[.int .i64 e, .int .i64 n, .int .i64 u], .agg #[.int .i64 re, .int .i64 rn, .int .i64 ru]] w fun E w' => E = .returned (.int .i64 r) ∧ Below w.heap.size w w' := by
  cases hf : fcB e n u
  · rw [fgI_no1 hf] at h_
    subst h_
    have HF := Lib.hid hf
    clear hf
    go_enter Try.func50, Try.ntmps50
    go_wp2_with fail
    refine (sFC_is _ HF.out).mono ?_; rintro E w1 ⟨rfl, hw1⟩
    obtain ⟨hP1, hQ1, hB1⟩ := ownb2 hw1
    go_wp2
    go_ret
    exact ⟨rfl, hB1⟩
  · cases hr : ryB re rn ru
    · rw [fgI_no2 hr] at h_
      subst h_
      have HF := Lib.hid hf
      have HR := Lib.hid hr
      clear hf hr
      go_enter Try.func50, Try.ntmps50
      go_wp2_with fail
      refine (sFC_is _ HF.out).mono ?_; rintro E w1 ⟨rfl, hw1⟩
      obtain ⟨hP1, hQ1, hB1⟩ := ownb2 hw1
      obtain ⟨b0, b1, b2, _, _, _, z2⟩ := blk3 hQ1
      go_wp2_with fail
      refine (sRV7_is _ HR.out).mono ?_; rintro E w2 ⟨rfl, hw2⟩
      have hP2 := blk_next hP1 hw2
      have hQ2 := blk_next hQ1 hw2
      have hB2 := bel_next hB1 hw2
      go_wp2
      go_ret
      exact ⟨rfl, hB2⟩
    · rw [fgI_yes hf hr] at h_
      obtain ⟨⟨p0, p1⟩, ⟨p2, p3⟩, ⟨p4, p5⟩⟩ := dot_bd hf hr
      have hD := Lib.hid h_
      clear h_
      have HF := Lib.hid hf
      have HR := Lib.hid hr
      clear hf hr
      go_enter Try.func50, Try.ntmps50
      go_wp2_with fail
      refine (sFC_is _ HF.out).mono ?_; rintro E w1 ⟨rfl, hw1⟩
      obtain ⟨hP1, hQ1, hB1⟩ := ownb2 hw1
      obtain ⟨b0, b1, b2, _, _, _, z2⟩ := blk3 hQ1
      go_wp2_with fail
      refine (sRV7_is _ HR.out).mono ?_; rintro E w2 ⟨rfl, hw2⟩
      have hP2 := blk_next hP1 hw2
      have hQ2 := blk_next hQ1 hw2
      have hB2 := bel_next hB1 hw2
      obtain ⟨a0, a1, a2, _, _, _, _⟩ := blk3 hP2
      obtain ⟨b0, b1, b2, _, _, _, _⟩ := blk3 hQ2
      by_cases hd : 0 ≤ dotI e n u re rn ru
      · have hr1 : r = dotI e n u re rn ru := by have := hD.out; omega
        unfold dotI at hd hr1
        go_wp2
        go_ret
        exact ⟨ret_int (by rw [hr1]), hB2⟩
      · have hr1 : r = 0 := by have := hD.out; omega
        subst hr1
        unfold dotI at hd
        go_wp2
        go_ret
        exact ⟨rfl, hB2⟩
end Go.Proofs.Ytigndpajpofofaa
