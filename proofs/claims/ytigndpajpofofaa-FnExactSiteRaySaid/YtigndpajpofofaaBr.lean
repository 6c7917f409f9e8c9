/- Contracts of chapter 8: what blinds do with light. -/
import Derived.Test.YtigndpajpofofaaBa
import Derived.Test.YtigndpajpofofaaGBool
import Derived.Laws.AppendOwn
namespace Go.Proofs.Ytigndpajpofofaa
open Go Go.ChangeShapes Go.WideShapes Go.ChangeAt Go.RowKit
set_option linter.unusedSimpArgs false
set_option linter.unusedVariables false

def BoolsRet8 (l : List Bool) (w : World) (e : Ending) (w' : World) : Prop := ∃ (A : Option Addr) (cap : Nat), e = .returned (.slice A l.length cap) ∧ SOwn encBool w' w.heap.size 4 A cap l ∧ Below w.heap.size w w'
theorem ret_sliceB {A : Option Addr} {n m c : Nat} (h : n = m) : Ending.returned (.slice A n c) = .returned (.slice A m c) := by rw [h]
theorem blk_grownS {α : Type} {E : Enc α} {w w' : World} {b base cv m : Nat} {o : Obj} {V : Option Addr} {T : TypeId} {us : List α} (h : w.heap[b]? = some o) (hO : SOwn E w base T V cv us) (hg : w.grownBy w' (Value.ownBlock (.slice V m cv))) (hb : b < base) : w'.heap[b]? = some o := by
  rw [hg.block b (blk_lt h) ?_]
  · exact h
  · rcases hO.form with ⟨rfl, _⟩ | ⟨g, rfl, hg2, _⟩
    · simp [Value.ownBlock]
    · simp [Value.ownBlock]; omega
theorem blk_grown1 {w w' : World} {b : Nat} {o : Obj} {row : Option Nat} (h : w.heap[b]? = some o) (hg : w.grownBy w' row) (hne : row ≠ some b) : w'.heap[b]? = some o := by
  rw [hg.block b (blk_lt h) (fun e => hne e.symm)]; exact h
theorem brL_60 (s : Bool) (lo hi : Int) (xs : List Int) : (brL s lo hi xs).length ≤ 60 := by
  cases h : brB lo hi xs
  · rw [brL_no h]; simp
  · rw [brL_yes h, brR_len]; exact (ltB_iff.1 (brB_iff.1 h).2).1
theorem cx_t1 {lo hi x : Int} (h : lo < hi) (h1 : x ≤ lo) : sgB true lo hi x = false := sgB_lo (by omega) h1
theorem cx_t0 {lo hi x : Int} (h1 : ¬ x ≤ lo) : sgB true lo hi x = true := by
  unfold sgB; split
  · rfl
  · first | rfl | rw [if_neg h1]
theorem cx_f1 {lo hi x : Int} (h1 : hi ≤ x) : sgB false lo hi x = true := sgB_hi h1
theorem cx_f0 {lo hi x : Int} (h1 : ¬ hi ≤ x) : sgB false lo hi x = false := by
  unfold sgB; rw [if_neg h1]; split <;> rfl
theorem cnt_y {a b : Bool} {c d : Int} (h : c = d + (if a = b then 0 else 1)) (e : a = b) : c = d := by rw [h, if_pos e]; omega
theorem cnt_n {a b : Bool} {c d : Int} (h : c = d + (if a = b then 0 else 1)) (e : a ≠ b) : c = d + 1 := by rw [h, if_neg e]
end Go.Proofs.Ytigndpajpofofaa
