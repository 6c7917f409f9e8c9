/- Contracts of chapter 5: the program's InShadow. -/
import Derived.Test.YtigndpajpofofaaVy
namespace Go.Proofs.Ytigndpajpofofaa
open Go Go.ChangeShapes Go.WideShapes Go.ChangeAt Go.RowKit
set_option linter.unusedSimpArgs false
set_option linter.unusedVariables false

theorem blk8 {w : World} {b : Nat} {y0 y1 y2 y3 y4 y5 y6 y7 : Value} {t : TypeId} (h : w.heap[b]? = some (.cells #[y0, y1, y2, y3, y4, y5, y6, y7] t (0, 0))) :
    w.cell? ⟨b, 0, none⟩ = some y0 ∧ w.cell? ⟨b, 1, none⟩ = some y1 ∧ w.cell? ⟨b, 2, none⟩ = some y2 ∧ w.cell? ⟨b, 3, none⟩ = some y3 ∧ w.cell? ⟨b, 4, none⟩ = some y4 ∧ w.cell? ⟨b, 5, none⟩ = some y5 ∧ w.cell? ⟨b, 6, none⟩ = some y6 ∧ w.cell? ⟨b, 7, none⟩ = some y7 ∧ b < w.heap.size :=
  ⟨by simp [World.cell?, h], by simp [World.cell?, h], by simp [World.cell?, h], by simp [World.cell?, h], by simp [World.cell?, h], by simp [World.cell?, h], by simp [World.cell?, h], by simp [World.cell?, h], blk_lt h⟩
def mx2 (x y : Int × Int) : Int × Int := maxF x y
def mn2 (x y : Int × Int) : Int × Int := minF x y
def upMax (x1 x2 x3 : Int × Int) (k : Nat) : Int × Int := if k = 0 then x1 else if k = 1 then maxF x1 x2 else maxF (maxF x1 x2) x3
def upMin (y1 y2 y3 : Int × Int) (k : Nat) : Int × Int := if k = 0 then y1 else if k = 1 then minF y1 y2 else minF (minF y1 y2) y3
set_option maxHeartbeats 4000000 in
theorem common_any (x1 y1 x2 y2 x3 y3 : Int × Int) (g cap : Nat) (w : World) (h1 : FrOk x1) (h2 : FrOk x2) (h3 : FrOk x3) (g1 : FrOk y1) (g2 : FrOk y2) (g3 : FrOk y3) (hg : w.heap[g]? = some (.cells #[.int .i64 x2.1, .int .i64 x2.2, .int .i64 y2.1, .int .i64 y2.2, .int .i64 x3.1, .int .i64 x3.2, .int .i64 y3.1, .int .i64 y3.2] 103 (0, 0))) :
    Calls Try.prog 91 #[.agg #[.int .i64 x1.1, .int .i64 x1.2, .int .i64 y1.1, .int .i64 y1.2], .slice (some ⟨g, 0, none⟩) 2 cap] w fun E w' => E = .returned (.agg #[.int .i64 (maxF (maxF x1 x2) x3).1, .int .i64 (maxF (maxF x1 x2) x3).2, .int .i64 (minF (minF y1 y2) y3).1, .int .i64 (minF (minF y1 y2) y3).2]) ∧ Below w.heap.size w w' := by
  go_enter Try.func91, Try.ntmps91
  go_wp2_with fail
  go_loopw [9] (fun i wr => ∃ k : Nat, k ≤ 2 ∧ i = .int .i64 k ∧ wr.heap[w.heap.size]? = some (.cells #[.int .i64 (upMax x1 x2 x3 k).1, .int .i64 (upMax x1 x2 x3 k).2, .int .i64 (upMin y1 y2 y3 k).1, .int .i64 (upMin y1 y2 y3 k).2] 103 (0, 0)) ∧ wr.heap[w.heap.size + 1]? = some (.cells #[.int .i64 0, .int .i64 0, .int .i64 0, .int .i64 0] 103 (0, 0)) ∧ wr.heap[g]? = some (.cells #[.int .i64 x2.1, .int .i64 x2.2, .int .i64 y2.1, .int .i64 y2.2, .int .i64 x3.1, .int .i64 x3.2, .int .i64 y3.1, .int .i64 y3.2] 103 (0, 0)) ∧ Below w.heap.size w wr) (fun i _ => (2 - intOf i).toNat)
  case atStart =>
    exact ⟨0, by omega, rfl, blk_old (blk_new w _) _, new2 w _ _, blk_old (blk_old hg _) _, bel2 w _ _⟩
  case round =>
    obtain ⟨k, k1, rfl, hP0, hQ, hL, hB⟩ := hrel
    have kk : k = 0 ∨ k = 1 ∨ k = 2 := by omega
    clear k1
    rcases kk with rfl | rfl | rfl
    · have hP := hP0
      have eu : upMax x1 x2 x3 0 = x1 := rfl
      have ev : upMin y1 y2 y3 0 = y1 := rfl
      rw [eu, ev] at hP
      clear eu ev hP0
      obtain ⟨p0, p1, p2, p3, f0, f1, f2, f3, zp⟩ := blk4 hP
      obtain ⟨l0, l1, l2, l3, l4, l5, l6, l7, zl⟩ := blk8 hL
      go_wp2_with fail
      refine (lastR_any _ _ _ _ _ h1 h2).mono ?_; rintro E w1 ⟨rfl, hw1⟩
      have hB1 := bel_next (hB.alloc hB.size _) hw1
      have hP1 := blk_next (blk_old hP _) hw1
      have hL1 := blk_next (blk_old hL _) hw1
      have hN1 := blk_next (blk_new wr _) hw1
      have hQ1 := blk_next (blk_old hQ _) hw1
      have hP2 : ((w1.setCell ⟨w.heap.size, 0, none⟩ (.int .i64 (maxF x1 x2).1)).setCell ⟨w.heap.size, 1, none⟩ (.int .i64 (maxF x1 x2).2)).heap[w.heap.size]? = some (.cells #[.int .i64 (maxF x1 x2).1, .int .i64 (maxF x1 x2).2, .int .i64 y1.1, .int .i64 y1.2] 103 (0, 0)) := by have := blk_at 1 (.int .i64 (maxF x1 x2).2) _ (blk_at 0 (.int .i64 (maxF x1 x2).1) _ hP1); rw [this]; simp
      have zg : g ≠ w.heap.size := by have := blk_lt hg; omega
      have zn : wr.heap.size ≠ w.heap.size := by omega
      have zq : w.heap.size + 1 ≠ w.heap.size := by omega
      have hL2 := blk_store2 hL1 zg (.int .i64 (maxF x1 x2).1) (.int .i64 (maxF x1 x2).2)
      have hN2 := blk_store2 hN1 zn (.int .i64 (maxF x1 x2).1) (.int .i64 (maxF x1 x2).2)
      have hQ2 := blk_store2 hQ1 zq (.int .i64 (maxF x1 x2).1) (.int .i64 (maxF x1 x2).2)
      have hB2 := store2_bel hB1 (Nat.le_refl _) (.int .i64 (maxF x1 x2).1) (.int .i64 (maxF x1 x2).2)
      obtain ⟨p0, p1, p2, p3, f0, f1, f2, f3, zp⟩ := blk4 hP1
      obtain ⟨n0, n1, n2, n3, j0, j1, j2, j3, zn1⟩ := blk4 hN1
      go_wp2_with fail
      refine (lastF_any _ _ _ _ _ g1 g2).mono ?_; rintro E w3 ⟨rfl, hw3⟩
      have hP3 := blk_next hP2 hw3
      have hL3 := blk_next hL2 hw3
      have hQ3 := blk_next hQ2 hw3
      have hB3 := bel_next hB2 hw3
      obtain ⟨p0, p1, p2, p3, f0, f1, f2, f3, zp⟩ := blk4 hP3
      have hP4 : ((w3.setCell ⟨w.heap.size, 2, none⟩ (.int .i64 (minF y1 y2).1)).setCell ⟨w.heap.size, 3, none⟩ (.int .i64 (minF y1 y2).2)).heap[w.heap.size]? = some (.cells #[.int .i64 (maxF x1 x2).1, .int .i64 (maxF x1 x2).2, .int .i64 (minF y1 y2).1, .int .i64 (minF y1 y2).2] 103 (0, 0)) := by have := blk_at 3 (.int .i64 (minF y1 y2).2) _ (blk_at 2 (.int .i64 (minF y1 y2).1) _ hP3); rw [this]; simp
      have hL4 := blk_far (i := 3) (blk_far (i := 2) hL3 zg (.int .i64 (minF y1 y2).1)) zg (.int .i64 (minF y1 y2).2)
      have hQ4 := blk_far (i := 3) (blk_far (i := 2) hQ3 zq (.int .i64 (minF y1 y2).1)) zq (.int .i64 (minF y1 y2).2)
      have hB4 := (hB3.setCell (p := ⟨w.heap.size, 2, none⟩) (Nat.le_refl _) (.int .i64 (minF y1 y2).1)).setCell (p := ⟨w.heap.size, 3, none⟩) (Nat.le_refl _) (.int .i64 (minF y1 y2).2)
      clear hP hP1 hP2 hP3 hL hL1 hL2 hL3 hQ hQ1 hQ2 hQ3 hN1 hN2
      go_wp2_with fail
      go_roundw
      case rel => exact ⟨1, by omega, by go_num, hP4, hQ4, hL4, hB4⟩
      case measure => simp [intOf]
    · have hP := hP0
      have eu : upMax x1 x2 x3 1 = (maxF x1 x2) := rfl
      have ev : upMin y1 y2 y3 1 = (minF y1 y2) := rfl
      rw [eu, ev] at hP
      clear eu ev hP0
      obtain ⟨p0, p1, p2, p3, f0, f1, f2, f3, zp⟩ := blk4 hP
      obtain ⟨l0, l1, l2, l3, l4, l5, l6, l7, zl⟩ := blk8 hL
      go_wp2_with fail
      refine (lastR_any _ _ _ _ _ (h1.max h2) h3).mono ?_; rintro E w1 ⟨rfl, hw1⟩
      have hB1 := bel_next (hB.alloc hB.size _) hw1
      have hP1 := blk_next (blk_old hP _) hw1
      have hL1 := blk_next (blk_old hL _) hw1
      have hN1 := blk_next (blk_new wr _) hw1
      have hQ1 := blk_next (blk_old hQ _) hw1
      have hP2 : ((w1.setCell ⟨w.heap.size, 0, none⟩ (.int .i64 (maxF (maxF x1 x2) x3).1)).setCell ⟨w.heap.size, 1, none⟩ (.int .i64 (maxF (maxF x1 x2) x3).2)).heap[w.heap.size]? = some (.cells #[.int .i64 (maxF (maxF x1 x2) x3).1, .int .i64 (maxF (maxF x1 x2) x3).2, .int .i64 (minF y1 y2).1, .int .i64 (minF y1 y2).2] 103 (0, 0)) := by have := blk_at 1 (.int .i64 (maxF (maxF x1 x2) x3).2) _ (blk_at 0 (.int .i64 (maxF (maxF x1 x2) x3).1) _ hP1); rw [this]; simp
      have zg : g ≠ w.heap.size := by have := blk_lt hg; omega
      have zn : wr.heap.size ≠ w.heap.size := by omega
      have zq : w.heap.size + 1 ≠ w.heap.size := by omega
      have hL2 := blk_store2 hL1 zg (.int .i64 (maxF (maxF x1 x2) x3).1) (.int .i64 (maxF (maxF x1 x2) x3).2)
      have hN2 := blk_store2 hN1 zn (.int .i64 (maxF (maxF x1 x2) x3).1) (.int .i64 (maxF (maxF x1 x2) x3).2)
      have hQ2 := blk_store2 hQ1 zq (.int .i64 (maxF (maxF x1 x2) x3).1) (.int .i64 (maxF (maxF x1 x2) x3).2)
      have hB2 := store2_bel hB1 (Nat.le_refl _) (.int .i64 (maxF (maxF x1 x2) x3).1) (.int .i64 (maxF (maxF x1 x2) x3).2)
      obtain ⟨p0, p1, p2, p3, f0, f1, f2, f3, zp⟩ := blk4 hP1
      obtain ⟨n0, n1, n2, n3, j0, j1, j2, j3, zn1⟩ := blk4 hN1
      go_wp2_with fail
      refine (lastF_any _ _ _ _ _ (g1.min g2) g3).mono ?_; rintro E w3 ⟨rfl, hw3⟩
      have hP3 := blk_next hP2 hw3
      have hL3 := blk_next hL2 hw3
      have hQ3 := blk_next hQ2 hw3
      have hB3 := bel_next hB2 hw3
      obtain ⟨p0, p1, p2, p3, f0, f1, f2, f3, zp⟩ := blk4 hP3
      have hP4 : ((w3.setCell ⟨w.heap.size, 2, none⟩ (.int .i64 (minF (minF y1 y2) y3).1)).setCell ⟨w.heap.size, 3, none⟩ (.int .i64 (minF (minF y1 y2) y3).2)).heap[w.heap.size]? = some (.cells #[.int .i64 (maxF (maxF x1 x2) x3).1, .int .i64 (maxF (maxF x1 x2) x3).2, .int .i64 (minF (minF y1 y2) y3).1, .int .i64 (minF (minF y1 y2) y3).2] 103 (0, 0)) := by have := blk_at 3 (.int .i64 (minF (minF y1 y2) y3).2) _ (blk_at 2 (.int .i64 (minF (minF y1 y2) y3).1) _ hP3); rw [this]; simp
      have hL4 := blk_far (i := 3) (blk_far (i := 2) hL3 zg (.int .i64 (minF (minF y1 y2) y3).1)) zg (.int .i64 (minF (minF y1 y2) y3).2)
      have hQ4 := blk_far (i := 3) (blk_far (i := 2) hQ3 zq (.int .i64 (minF (minF y1 y2) y3).1)) zq (.int .i64 (minF (minF y1 y2) y3).2)
      have hB4 := (hB3.setCell (p := ⟨w.heap.size, 2, none⟩) (Nat.le_refl _) (.int .i64 (minF (minF y1 y2) y3).1)).setCell (p := ⟨w.heap.size, 3, none⟩) (Nat.le_refl _) (.int .i64 (minF (minF y1 y2) y3).2)
      clear hP hP1 hP2 hP3 hL hL1 hL2 hL3 hQ hQ1 hQ2 hQ3 hN1 hN2
      go_wp2_with fail
      go_roundw
      case rel => exact ⟨2, by omega, by go_num, hP4, hQ4, hL4, hB4⟩
      case measure => simp [intOf]
    · have hP := hP0
      have eu : upMax x1 x2 x3 2 = maxF (maxF x1 x2) x3 := rfl
      have ev : upMin y1 y2 y3 2 = minF (minF y1 y2) y3 := rfl
      rw [eu, ev] at hP
      clear eu ev hP0
      obtain ⟨p0, p1, p2, p3, f0, f1, f2, f3, zp⟩ := blk4 hP
      obtain ⟨q0, q1, q2, q3, k0, k1, k2, k3, zq⟩ := blk4 hQ
      have hQ2 := blk4_put (y0 := .int .i64 (maxF (maxF x1 x2) x3).1) (y1 := .int .i64 (maxF (maxF x1 x2) x3).2) (y2 := .int .i64 (minF (minF y1 y2) y3).1) (y3 := .int .i64 (minF (minF y1 y2) y3).2) hQ
      obtain ⟨r0, r1, r2, r3, _, _, _, _, _⟩ := blk4 hQ2
      go_wp2
      exact bodyPost_ret (v := .agg #[.int .i64 (maxF (maxF x1 x2) x3).1, .int .i64 (maxF (maxF x1 x2) x3).2, .int .i64 (minF (minF y1 y2) y3).1, .int .i64 (minF (minF y1 y2) y3).2]) (by simp [results, Try.results91, go_sem, r0, r1, r2, r3]) rfl ⟨rfl, store4_bel hB (by omega) _ _ _ _⟩
end Go.Proofs.Ytigndpajpofofaa
