/- QE: texts joined. -/
import Derived.Test.YtbklgpghonigjaaGreatMQD
import Derived.Test.YtbklgpghonigjaaGreatMQA
import Derived.Test.YtbklgpghonigjaaGreatRows
import Derived.Test.YtbklgpghonigjaaGreatMQC
namespace Go.Proofs.YtbklgpghonigjaaGreat
set_option linter.unusedVariables false
set_option linter.unusedSimpArgs false
def fcB (e n u : Int) : Bool := decide (-10 ≤ e ∧ e ≤ 10 ∧ -10 ≤ n ∧ n ≤ 10 ∧ 0 ≤ u ∧ u ≤ 10 ∧ ¬(e = 0 ∧ n = 0 ∧ u = 0))
theorem fcB_iff {e n u : Int} : fcB e n u = true ↔ -10 ≤ e ∧ e ≤ 10 ∧ -10 ≤ n ∧ n ≤ 10 ∧ 0 ≤ u ∧ u ≤ 10 ∧ ¬(e = 0 ∧ n = 0 ∧ u = 0) := by unfold fcB; rw [decide_eq_true_eq]
def dotI (e n u re rn ru : Int) : Int := e * re + n * rn + u * ru
def fgI (e n u re rn ru : Int) : Int := if (fcB e n u && ryB re rn ru) = true then max (dotI e n u re rn ru) 0 else -1
theorem mul_le20 {a b : Int} (h0 : -10 ≤ a) (h1 : a ≤ 10) (h2 : -20 ≤ b) (h3 : b ≤ 20) : -200 ≤ a * b ∧ a * b ≤ 200 := by
  have e1 : a * b = (a + 10) * (b + 20) - 20 * a - 10 * b - 200 := by grind
  have e2 : a * b = -((10 - a) * (b + 20)) - 20 * a + 10 * b + 200 := by grind
  have e3 : a * b = -((a + 10) * (20 - b)) + 20 * a - 10 * b + 200 := by grind
  have e4 : a * b = (10 - a) * (20 - b) + 20 * a + 10 * b - 200 := by grind
  have p1 : 0 ≤ (a + 10) * (b + 20) := Int.mul_nonneg (by omega) (by omega)
  have p2 : 0 ≤ (10 - a) * (b + 20) := Int.mul_nonneg (by omega) (by omega)
  have p3 : 0 ≤ (a + 10) * (20 - b) := Int.mul_nonneg (by omega) (by omega)
  have p4 : 0 ≤ (10 - a) * (20 - b) := Int.mul_nonneg (by omega) (by omega)
  omega
theorem dot_bd {e n u re rn ru : Int} (hf : fcB e n u = true) (hr : ryB re rn ru = true) : (-200 ≤ e * re ∧ e * re ≤ 200) ∧ (-200 ≤ n * rn ∧ n * rn ≤ 200) ∧ (-200 ≤ u * ru ∧ u * ru ≤ 200) := by
  rw [fcB_iff] at hf; rw [ryB_iff] at hr
  exact ⟨mul_le20 (by omega) (by omega) (by omega) (by omega), mul_le20 (by omega) (by omega) (by omega) (by omega), mul_le20 (by omega) (by omega) (by omega) (by omega)⟩
theorem fgI_no1 {e n u re rn ru : Int} (h : fcB e n u = false) : fgI e n u re rn ru = -1 := by unfold fgI; rw [h]; simp
theorem fgI_no2 {e n u re rn ru : Int} (h : ryB re rn ru = false) : fgI e n u re rn ru = -1 := by unfold fgI; rw [h]; simp
theorem fgI_yes {e n u re rn ru : Int} (hf : fcB e n u = true) (hr : ryB re rn ru = true) : fgI e n u re rn ru = max (dotI e n u re rn ru) 0 := by unfold fgI; rw [hf, hr]; simp
theorem fgI_bd {e n u re rn ru : Int} (hf : fcB e n u = true) (hr : ryB re rn ru = true) : 0 ≤ fgI e n u re rn ru ∧ fgI e n u re rn ru ≤ 600 := by
  have := dot_bd hf hr
  rw [fgI_yes hf hr]; unfold dotI; omega
end Go.Proofs.YtbklgpghonigjaaGreat
namespace Go.Proofs.YtbklgpghonigjaaGreat
open Go Go.ChangeShapes Go.WideShapes Go.ChangeAt Go.RowKit
set_option linter.unusedSimpArgs false
set_option linter.unusedVariables false
theorem iIn7 (n a b : Int) (w : World) : Calls Tryz.prog 99 #[.int .i64 n, .int .i64 a, .int .i64 b] w fun E w' => E = .returned (.bool (inV n a b)) ∧ w = w' := by
  go_enter Tryz.func99, Tryz.ntmps99
  go_wp2
  all_goals go_ret
  all_goals exact ⟨ret_bool (by rw [Bool.eq_iff_iff]; simp [inV]; omega), rfl⟩
theorem iIn7_is {n a b : Int} {r : Bool} (w : World) (h_ : inV n a b = r) : Calls Tryz.prog 99 #[.int .i64 n, .int .i64 a, .int .i64 b] w fun E w' => E = .returned (.bool r) ∧ w = w' := by subst h_; exact iIn7 n a b w
theorem sIn7 (n a b : Int) (w : World) : Calls Tryz.prog 65 #[.int .i64 n, .int .i64 a, .int .i64 b] w fun E w' => E = .returned (.bool (inV n a b)) ∧ w = w' := by
  go_enter Tryz.func65, Tryz.ntmps65
  go_wp2
  all_goals go_ret
  all_goals exact ⟨ret_bool (by rw [Bool.eq_iff_iff]; simp [inV]; omega), rfl⟩
theorem sIn7_is {n a b : Int} {r : Bool} (w : World) (h_ : inV n a b = r) : Calls Tryz.prog 65 #[.int .i64 n, .int .i64 a, .int .i64 b] w fun E w' => E = .returned (.bool r) ∧ w = w' := by subst h_; exact sIn7 n a b w
theorem al7_no {α : Type} {p : α → Bool} {xs : List α} {k : Nat} (hk : k < xs.length) (h : p xs[k] = false) : xs.all p = false := by
  rw [List.all_eq_false]; exact ⟨xs[k], List.getElem_mem hk, by simp [h]⟩
theorem al7_yes {α : Type} {p : α → Bool} {xs : List α} {k n : Nat} (hn : xs.length = n) (hk : n ≤ k) (h : (xs.take k).all p = true) : xs.all p = true := by
  rwa [List.take_of_length_le (by omega)] at h
theorem al7_step {α : Type} {p : α → Bool} {xs : List α} {k : Nat} (hk : k < xs.length) (ha : (xs.take k).all p = true) (h : p xs[k] = true) : (xs.take (k + 1)).all p = true := by
  rw [List.take_succ_eq_append_getElem hk, List.all_append, ha]; simp [h]
end Go.Proofs.YtbklgpghonigjaaGreat
namespace Go.Proofs.YtbklgpghonigjaaGreat
open Go Go.ChangeShapes Go.WideShapes Go.ChangeAt Go.RowKit
set_option linter.unusedSimpArgs false
set_option linter.unusedVariables false
set_option maxHeartbeats 4000000 in
theorem iFC_any (e n u : Int) (w : World) :
    Calls Tryz.prog 121 #[.agg #[.int .i64 e, .int .i64 n, .int .i64 u]] w fun E w' => E = .returned (.bool (fcB e n u)) ∧ Below w.heap.size w w' := by
  by_cases hz : e = 0 ∧ n = 0 ∧ u = 0
  · obtain ⟨rfl, rfl, rfl⟩ := hz
    go_enter Tryz.func121, Tryz.ntmps121
    go_wp2_with (go_at_call 99; refine (iIn7 _ _ _ _).mono ?_; rintro E w' ⟨rfl, rfl⟩)
    all_goals go_ret
    all_goals exact ⟨ret_bool (by simp_all [fcB, inV]), bel1 _ _⟩
  · have HZ := Lib.hid hz
    clear hz
    go_enter Tryz.func121, Tryz.ntmps121
    go_wp2_with (go_at_call 99; refine (iIn7 _ _ _ _).mono ?_; rintro E w' ⟨rfl, rfl⟩)
    all_goals go_ret
    all_goals have hz := HZ.out
    all_goals exact ⟨ret_bool (by first | (simp_all [fcB, inV]; done) | (rw [Bool.eq_iff_iff]; simp_all [fcB, inV]; omega)), bel1 _ _⟩
theorem iFC_is {e n u : Int} {r : Bool} (w : World) (h_ : fcB e n u = r) : Calls Tryz.prog 121 #[.agg #[.int .i64 e, .int .i64 n, .int .i64 u]] w fun E w' => E = .returned (.bool r) ∧ Below w.heap.size w w' := by subst h_; exact iFC_any e n u w
set_option maxHeartbeats 4000000 in
theorem sFC_any (e n u : Int) (w : World) :
    Calls Tryz.prog 68 #[.agg #[.int .i64 e, .int .i64 n, .int .i64 u]] w fun E w' => E = .returned (.bool (fcB e n u)) ∧ Below w.heap.size w w' := by
  by_cases hz : e = 0 ∧ n = 0 ∧ u = 0
  · obtain ⟨rfl, rfl, rfl⟩ := hz
    go_enter Tryz.func68, Tryz.ntmps68
    go_wp2_with (go_at_call 65; refine (sIn7 _ _ _ _).mono ?_; rintro E w' ⟨rfl, rfl⟩)
    all_goals go_ret
    all_goals exact ⟨ret_bool (by simp_all [fcB, inV]), bel1 _ _⟩
  · have HZ := Lib.hid hz
    clear hz
    go_enter Tryz.func68, Tryz.ntmps68
    go_wp2_with (go_at_call 65; refine (sIn7 _ _ _ _).mono ?_; rintro E w' ⟨rfl, rfl⟩)
    all_goals go_ret
    all_goals have hz := HZ.out
    all_goals exact ⟨ret_bool (by first | (simp_all [fcB, inV]; done) | (rw [Bool.eq_iff_iff]; simp_all [fcB, inV]; omega)), bel1 _ _⟩
theorem sFC_is {e n u : Int} {r : Bool} (w : World) (h_ : fcB e n u = r) : Calls Tryz.prog 68 #[.agg #[.int .i64 e, .int .i64 n, .int .i64 u]] w fun E w' => E = .returned (.bool r) ∧ Below w.heap.size w w' := by subst h_; exact sFC_any e n u w
set_option maxHeartbeats 4000000 in
theorem iRV7_any (e n u : Int) (w : World) :
    Calls Tryz.prog 58 #[.agg #[.int .i64 e, .int .i64 n, .int .i64 u]] w fun E w' => E = .returned (.bool (ryB e n u)) ∧ Below w.heap.size w w' := by
  go_enter Tryz.func58, Tryz.ntmps58
  go_wp2_with (go_at_call 99; refine (iIn7 _ _ _ _).mono ?_; rintro E w' ⟨rfl, rfl⟩)
  all_goals go_ret
  all_goals exact ⟨ret_bool (by first | (simp_all [ryB, inV]; done) | (rw [Bool.eq_iff_iff]; simp_all [ryB, inV]; omega)), bel1 _ _⟩
theorem iRV7_is {e n u : Int} {r : Bool} (w : World) (h_ : ryB e n u = r) : Calls Tryz.prog 58 #[.agg #[.int .i64 e, .int .i64 n, .int .i64 u]] w fun E w' => E = .returned (.bool r) ∧ Below w.heap.size w w' := by subst h_; exact iRV7_any e n u w
set_option maxHeartbeats 4000000 in
theorem sRV7_any (e n u : Int) (w : World) :
    Calls Tryz.prog 96 #[.agg #[.int .i64 e, .int .i64 n, .int .i64 u]] w fun E w' => E = .returned (.bool (ryB e n u)) ∧ Below w.heap.size w w' := by
  go_enter Tryz.func96, Tryz.ntmps96
  go_wp2_with (go_at_call 65; refine (sIn7 _ _ _ _).mono ?_; rintro E w' ⟨rfl, rfl⟩)
  all_goals go_ret
  all_goals exact ⟨ret_bool (by first | (simp_all [ryB, inV]; done) | (rw [Bool.eq_iff_iff]; simp_all [ryB, inV]; omega)), bel1 _ _⟩
theorem sRV7_is {e n u : Int} {r : Bool} (w : World) (h_ : ryB e n u = r) : Calls Tryz.prog 96 #[.agg #[.int .i64 e, .int .i64 n, .int .i64 u]] w fun E w' => E = .returned (.bool r) ∧ Below w.heap.size w w' := by subst h_; exact sRV7_any e n u w
set_option maxHeartbeats 4000000 in
theorem iFG_is {e n u re rn ru : Int} {r : Int} (w : World) (h_ : fgI e n u re rn ru = r) :
    Calls Tryz.prog 138 #[.agg #[.int .i64 e, .int .i64 n, .int .i64 u], .agg #[.int .i64 re, .int .i64 rn, .int .i64 ru]] w fun E w' => E = .returned (.int .i64 r) ∧ Below w.heap.size w w' := by
  cases hf : fcB e n u
  · rw [fgI_no1 hf] at h_
    subst h_
    have HF := Lib.hid hf
    clear hf
    go_enter Tryz.func138, Tryz.ntmps138
    go_wp2_with fail
    refine (iFC_is _ HF.out).mono ?_; rintro E w1 ⟨rfl, hw1⟩
    obtain ⟨hP1, hQ1, hB1⟩ := ownb2 hw1
    go_wp2
    go_ret
    exact ⟨rfl, hB1⟩
  · cases hr : ryB re rn ru
    · rw [fgI_no2 hr] at h_
      subst h_
      have HF := Lib.hid hf
      have HR := Lib.hid hr
      clear hf hr
      go_enter Tryz.func138, Tryz.ntmps138
      go_wp2_with fail
      refine (iFC_is _ HF.out).mono ?_; rintro E w1 ⟨rfl, hw1⟩
      obtain ⟨hP1, hQ1, hB1⟩ := ownb2 hw1
      obtain ⟨b0, b1, b2, _, _, _, z2⟩ := blk3 hQ1
      go_wp2_with fail
      refine (iRV7_is _ HR.out).mono ?_; rintro E w2 ⟨rfl, hw2⟩
      have hP2 := blk_next hP1 hw2
      have hQ2 := blk_next hQ1 hw2
      have hB2 := bel_next hB1 hw2
      go_wp2
      go_ret
      exact ⟨rfl, hB2⟩
    · rw [fgI_yes hf hr] at h_
      obtain ⟨⟨p0, p1⟩, ⟨p2, p3⟩, ⟨p4, p5⟩⟩ := dot_bd hf hr
      have hD := Lib.hid h_
      clear h_
      have HF := Lib.hid hf
      have HR := Lib.hid hr
      clear hf hr
      go_enter Tryz.func138, Tryz.ntmps138
      go_wp2_with fail
      refine (iFC_is _ HF.out).mono ?_; rintro E w1 ⟨rfl, hw1⟩
      obtain ⟨hP1, hQ1, hB1⟩ := ownb2 hw1
      obtain ⟨b0, b1, b2, _, _, _, z2⟩ := blk3 hQ1
      go_wp2_with fail
      refine (iRV7_is _ HR.out).mono ?_; rintro E w2 ⟨rfl, hw2⟩
      have hP2 := blk_next hP1 hw2
      have hQ2 := blk_next hQ1 hw2
      have hB2 := bel_next hB1 hw2
      obtain ⟨a0, a1, a2, _, _, _, _⟩ := blk3 hP2
      obtain ⟨b0, b1, b2, _, _, _, _⟩ := blk3 hQ2
      by_cases hd : 0 ≤ dotI e n u re rn ru
      · have hr1 : r = dotI e n u re rn ru := by have := hD.out; omega
        unfold dotI at hd hr1
        go_wp2
        go_ret
        exact ⟨ret_int (by rw [hr1]), hB2⟩
      · have hr1 : r = 0 := by have := hD.out; omega
        subst hr1
        unfold dotI at hd
        go_wp2
        go_ret
        exact ⟨rfl, hB2⟩
set_option maxHeartbeats 4000000 in
theorem sFG_is {e n u re rn ru : Int} {r : Int} (w : World) (h_ : fgI e n u re rn ru = r) :
    Calls Tryz.prog 55 #[.agg #[.int .i64 e, .int .i64 n, .int .i64 u], .agg #[.int .i64 re, .int .i64 rn, .int .i64 ru]] w fun E w' => E = .returned (.int .i64 r) ∧ Below w.heap.size w w' := by
  cases hf : fcB e n u
  · rw [fgI_no1 hf] at h_
    subst h_
    have HF := Lib.hid hf
    clear hf
    go_enter Tryz.func55, Tryz.ntmps55
    go_wp2_with fail
    refine (sFC_is _ HF.out).mono ?_; rintro E w1 ⟨rfl, hw1⟩
    obtain ⟨hP1, hQ1, hB1⟩ := ownb2 hw1
    go_wp2
    go_ret
    exact ⟨rfl, hB1⟩
  · cases hr : ryB re rn ru
    · rw [fgI_no2 hr] at h_
      subst h_
      have HF := Lib.hid hf
      have HR := Lib.hid hr
      clear hf hr
      go_enter Tryz.func55, Tryz.ntmps55
      go_wp2_with fail
      refine (sFC_is _ HF.out).mono ?_; rintro E w1 ⟨rfl, hw1⟩
      obtain ⟨hP1, hQ1, hB1⟩ := ownb2 hw1
      obtain ⟨b0, b1, b2, _, _, _, z2⟩ := blk3 hQ1
      go_wp2_with fail
      refine (sRV7_is _ HR.out).mono ?_; rintro E w2 ⟨rfl, hw2⟩
      have hP2 := blk_next hP1 hw2
      have hQ2 := blk_next hQ1 hw2
      have hB2 := bel_next hB1 hw2
      go_wp2
      go_ret
      exact ⟨rfl, hB2⟩
    · rw [fgI_yes hf hr] at h_
      obtain ⟨⟨p0, p1⟩, ⟨p2, p3⟩, ⟨p4, p5⟩⟩ := dot_bd hf hr
      have hD := Lib.hid h_
      clear h_
      have HF := Lib.hid hf
      have HR := Lib.hid hr
      clear hf hr
      go_enter Tryz.func55, Tryz.ntmps55
      go_wp2_with fail
      refine (sFC_is _ HF.out).mono ?_; rintro E w1 ⟨rfl, hw1⟩
      obtain ⟨hP1, hQ1, hB1⟩ := ownb2 hw1
      obtain ⟨b0, b1, b2, _, _, _, z2⟩ := blk3 hQ1
      go_wp2_with fail
      refine (sRV7_is _ HR.out).mono ?_; rintro E w2 ⟨rfl, hw2⟩
      have hP2 := blk_next hP1 hw2
      have hQ2 := blk_next hQ1 hw2
      have hB2 := bel_next hB1 hw2
      obtain ⟨a0, a1, a2, _, _, _, _⟩ := blk3 hP2
      obtain ⟨b0, b1, b2, _, _, _, _⟩ := blk3 hQ2
      by_cases hd : 0 ≤ dotI e n u re rn ru
      · have hr1 : r = dotI e n u re rn ru := by have := hD.out; omega
        unfold dotI at hd hr1
        go_wp2
        go_ret
        exact ⟨ret_int (by rw [hr1]), hB2⟩
      · have hr1 : r = 0 := by have := hD.out; omega
        subst hr1
        unfold dotI at hd
        go_wp2
        go_ret
        exact ⟨rfl, hB2⟩
end Go.Proofs.YtbklgpghonigjaaGreat
namespace Go.Proofs.YtbklgpghonigjaaGreat
set_option linter.unusedVariables false
set_option linter.unusedSimpArgs false
/-- An hour: what is gained, what is needed. -/
def hrV (h : Int × Int) : Bool := decide (0 ≤ h.1 ∧ h.1 ≤ 20 ∧ 0 ≤ h.2 ∧ h.2 ≤ 20)
theorem hrV_iff {h : Int × Int} : hrV h = true ↔ 0 ≤ h.1 ∧ h.1 ≤ 20 ∧ 0 ≤ h.2 ∧ h.2 ≤ 20 := by unfold hrV; rw [decide_eq_true_eq]
def hrB (xs : List (Int × Int)) : Bool := decide (xs.length ≤ 10) && xs.all hrV
theorem hrB_iff {xs : List (Int × Int)} : hrB xs = true ↔ xs.length ≤ 10 ∧ ∀ x ∈ xs, hrV x = true := by
  unfold hrB; rw [Bool.and_eq_true, decide_eq_true_eq, List.all_eq_true]
theorem hrB_at {xs : List (Int × Int)} (h : hrB xs = true) {i : Nat} (hi : i < xs.length) : 0 ≤ xs[i].1 ∧ xs[i].1 ≤ 20 ∧ 0 ≤ xs[i].2 ∧ xs[i].2 ≤ 20 := hrV_iff.1 ((hrB_iff.1 h).2 _ (List.getElem_mem hi))
def stB (xs : List (Int × Int)) (holds has : Int) : Bool := hrB xs && (decide (0 ≤ holds ∧ holds ≤ 200) && decide (0 ≤ has ∧ has ≤ holds))
theorem stB_iff {xs : List (Int × Int)} {holds has : Int} : stB xs holds has = true ↔ hrB xs = true ∧ 0 ≤ holds ∧ holds ≤ 200 ∧ 0 ≤ has ∧ has ≤ holds := by
  unfold stB; simp only [Bool.and_eq_true, decide_eq_true_eq, and_assoc]
/-- What is in the store behind an hour, what lacks in it, what is lost. -/
def stS (holds has : Int) (h : Int × Int) : Int := min (max (has + h.1 - h.2) 0) holds
def laS (has : Int) (h : Int × Int) : Int := max (-(has + h.1 - h.2)) 0
def loS (holds has : Int) (h : Int × Int) : Int := max (has + h.1 - h.2 - holds) 0
def stE (holds : Int) : Int → List (Int × Int) → Int
  | has, [] => has
  | has, h :: xs => stE holds (stS holds has h) xs
def stR (holds : Int) : Int → List (Int × Int) → List Int
  | _, [] => []
  | has, h :: xs => stS holds has h :: stR holds (stS holds has h) xs
def laR (holds : Int) : Int → List (Int × Int) → Int
  | _, [] => 0
  | has, h :: xs => laS has h + laR holds (stS holds has h) xs
def loR (holds : Int) : Int → List (Int × Int) → Int
  | _, [] => 0
  | has, h :: xs => loS holds has h + loR holds (stS holds has h) xs
theorem stE_app (holds : Int) : ∀ (a b : List (Int × Int)) (has : Int), stE holds has (a ++ b) = stE holds (stE holds has a) b
  | [], b, has => rfl
  | h :: a, b, has => by simp only [List.cons_append, stE]; exact stE_app holds a b _
theorem stR_app (holds : Int) : ∀ (a b : List (Int × Int)) (has : Int), stR holds has (a ++ b) = stR holds has a ++ stR holds (stE holds has a) b
  | [], b, has => rfl
  | h :: a, b, has => by simp only [List.cons_append, stR, stE]; rw [stR_app holds a b _]
theorem laR_app (holds : Int) : ∀ (a b : List (Int × Int)) (has : Int), laR holds has (a ++ b) = laR holds has a + laR holds (stE holds has a) b
  | [], b, has => by simp [laR, stE]
  | h :: a, b, has => by simp only [List.cons_append, laR, stE]; rw [laR_app holds a b _]; omega
theorem loR_app (holds : Int) : ∀ (a b : List (Int × Int)) (has : Int), loR holds has (a ++ b) = loR holds has a + loR holds (stE holds has a) b
  | [], b, has => by simp [loR, stE]
  | h :: a, b, has => by simp only [List.cons_append, loR, stE]; rw [loR_app holds a b _]; omega
theorem stE_step {holds has : Int} {xs : List (Int × Int)} {k : Nat} (hk : k < xs.length) : stE holds has (xs.take (k + 1)) = stS holds (stE holds has (xs.take k)) xs[k] := by
  rw [List.take_succ_eq_append_getElem hk, stE_app]; rfl
theorem stR_step {holds has : Int} {xs : List (Int × Int)} {k : Nat} (hk : k < xs.length) : stR holds has (xs.take (k + 1)) = stR holds has (xs.take k) ++ [stS holds (stE holds has (xs.take k)) xs[k]] := by
  rw [List.take_succ_eq_append_getElem hk, stR_app]; rfl
theorem laR_step {holds has : Int} {xs : List (Int × Int)} {k : Nat} (hk : k < xs.length) : laR holds has (xs.take (k + 1)) = laR holds has (xs.take k) + laS (stE holds has (xs.take k)) xs[k] := by
  rw [List.take_succ_eq_append_getElem hk, laR_app]; simp [laR]
theorem loR_step {holds has : Int} {xs : List (Int × Int)} {k : Nat} (hk : k < xs.length) : loR holds has (xs.take (k + 1)) = loR holds has (xs.take k) + loS holds (stE holds has (xs.take k)) xs[k] := by
  rw [List.take_succ_eq_append_getElem hk, loR_app]; simp [loR]
theorem stR_len (holds : Int) : ∀ (xs : List (Int × Int)) (has : Int), (stR holds has xs).length = xs.length
  | [], _ => rfl
  | h :: xs, has => by simp [stR, stR_len holds xs]
theorem stS_bd {holds has : Int} {h : Int × Int} (h0 : 0 ≤ holds) : 0 ≤ stS holds has h ∧ stS holds has h ≤ holds := by unfold stS; omega
theorem stE_bd {holds : Int} (h0 : 0 ≤ holds) : ∀ (xs : List (Int × Int)) (has : Int), 0 ≤ has → has ≤ holds → 0 ≤ stE holds has xs ∧ stE holds has xs ≤ holds
  | [], has, a, b => ⟨a, b⟩
  | h :: xs, has, a, b => stE_bd h0 xs _ (stS_bd h0).1 (stS_bd h0).2
theorem laR_nn (holds : Int) : ∀ (xs : List (Int × Int)) (has : Int), 0 ≤ laR holds has xs
  | [], _ => by simp [laR]
  | h :: xs, has => by have := laR_nn holds xs (stS holds has h); simp only [laR, laS]; omega
theorem loR_nn (holds : Int) : ∀ (xs : List (Int × Int)) (has : Int), 0 ≤ loR holds has xs
  | [], _ => by simp [loR]
  | h :: xs, has => by have := loR_nn holds xs (stS holds has h); simp only [loR, loS]; omega
/-- The results. -/
def stL (xs : List (Int × Int)) (holds has : Int) : List Int := if stB xs holds has = true then stR holds has xs else []
def laI (xs : List (Int × Int)) (holds has : Int) : Int := if stB xs holds has = true then laR holds has xs else -1
def loI (xs : List (Int × Int)) (holds has : Int) : Int := if stB xs holds has = true then loR holds has xs else -1
theorem laR_bd {holds : Int} (h0 : 0 ≤ holds) : ∀ (xs : List (Int × Int)) (has : Int), 0 ≤ has → (∀ x ∈ xs, hrV x = true) → laR holds has xs ≤ 20 * xs.length
  | [], _, _, _ => by simp [laR]
  | h :: xs, has, a, b => by
    have h1 := laR_bd h0 xs (stS holds has h) (stS_bd h0).1 (fun y hy => b y (by simp [hy]))
    have h2 := hrV_iff.1 (b h (by simp))
    simp only [laR, laS, List.length_cons]; omega
theorem loR_bd {holds : Int} (h0 : 0 ≤ holds) : ∀ (xs : List (Int × Int)) (has : Int), has ≤ holds → (∀ x ∈ xs, hrV x = true) → loR holds has xs ≤ 20 * xs.length
  | [], _, _, _ => by simp [loR]
  | h :: xs, has, a, b => by
    have h1 := loR_bd h0 xs (stS holds has h) (stS_bd h0).2 (fun y hy => b y (by simp [hy]))
    have h2 := hrV_iff.1 (b h (by simp))
    simp only [loR, loS, List.length_cons]; omega
end Go.Proofs.YtbklgpghonigjaaGreat
