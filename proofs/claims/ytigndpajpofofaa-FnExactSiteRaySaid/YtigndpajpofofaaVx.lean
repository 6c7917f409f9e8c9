/- Contracts of chapter 5: the model's SameSpot. -/
import Derived.Test.YtigndpajpofofaaVu
namespace Go.Proofs.Ytigndpajpofofaa
open Go Go.ChangeShapes Go.WideShapes Go.ChangeAt Go.RowKit
set_option linter.unusedSimpArgs false
set_option linter.unusedVariables false

theorem blk6 {w : World} {b : Nat} {x0 x1 x2 x3 x4 x5 : Value} {t : TypeId} (h : w.heap[b]? = some (.cells #[x0, x1, x2, x3, x4, x5] t (0, 0))) :
    w.cell? ⟨b, 0, none⟩ = some x0 ∧ w.cell? ⟨b, 1, none⟩ = some x1 ∧ w.cell? ⟨b, 2, none⟩ = some x2 ∧ w.cell? ⟨b, 3, none⟩ = some x3 ∧ w.cell? ⟨b, 4, none⟩ = some x4 ∧ w.cell? ⟨b, 5, none⟩ = some x5 ∧ w.frozen? ⟨b, 0, none⟩ = false ∧ w.frozen? ⟨b, 1, none⟩ = false ∧ w.frozen? ⟨b, 2, none⟩ = false ∧ w.frozen? ⟨b, 3, none⟩ = false ∧ w.frozen? ⟨b, 4, none⟩ = false ∧ w.frozen? ⟨b, 5, none⟩ = false ∧ b < w.heap.size :=
  ⟨by simp [World.cell?, h], by simp [World.cell?, h], by simp [World.cell?, h], by simp [World.cell?, h], by simp [World.cell?, h], by simp [World.cell?, h], by simp [World.frozen?, h], by simp [World.frozen?, h], by simp [World.frozen?, h], by simp [World.frozen?, h], by simp [World.frozen?, h], by simp [World.frozen?, h], blk_lt h⟩
theorem inV_t {n a b : Int} (h0 : a ≤ n) (h1 : n ≤ b) : inV n a b = true := by unfold inV; simp; omega
theorem l1V_is3 (n a b : Int) (r : Bool) (w : World) (h : inV n a b = r) : Calls Try.prog 20 #[.int .i64 n, .int .i64 a, .int .i64 b] w fun E w' => E = .returned (.bool r) ∧ w = w' := by subst h; exact l1V_any n a b w
theorem spB_three {e n d : Int} (h : spB e n d = false) : inV d 1 1000000 = false ∨ (inV d 1 1000000 = true ∧ inV e (-1000000) 1000000 = false) ∨ (inV d 1 1000000 = true ∧ inV e (-1000000) 1000000 = true ∧ inV n (-1000000) 1000000 = false) := by
  unfold spB at h; unfold inV
  have h := of_decide_eq_false h
  simp only [decide_eq_true_eq, decide_eq_false_iff_not]
  omega
theorem spB_all {e n d : Int} (h : spB e n d = true) : inV d 1 1000000 = true ∧ inV e (-1000000) 1000000 = true ∧ inV n (-1000000) 1000000 = true := by
  have h := spB_iff.1 h; unfold inV; simp only [decide_eq_true_eq]; omega
end Go.Proofs.Ytigndpajpofofaa
