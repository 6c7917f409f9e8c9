/- Contracts of chapter 3: days, nights, setting, rising. -/
import Derived.Test.YtigndpajpofofaaSc
namespace Go.Proofs.Ytigndpajpofofaa
open Go.ChangeShapes Go.WideShapes Go.ChangeAt Go.RowKit
set_option linter.unusedSimpArgs false
set_option linter.unusedVariables false

def noSetB (l t : Int) : Bool := skyB l t && decide (0 < upI l t 180)
def noRiseB (l t : Int) : Bool := skyB l t && decide (upI l t 0 ≤ 0)
def setS (l t n : Int) : Prop := (skyB l t = false ∧ n = -1) ∨ (skyB l t = true ∧ SetIs (posB l t) n)
theorem setS.unique {l t n m : Int} (h : setS l t n) (k : setS l t m) : n = m := by
  rcases h with ⟨h0, rfl⟩ | ⟨h0, h⟩
  · rcases k with ⟨_, rfl⟩ | ⟨k0, _⟩
    · rfl
    · rw [h0] at k0; cases k0
  · rcases k with ⟨k0, rfl⟩ | ⟨_, k⟩
    · rw [h0] at k0; cases k0
    · exact h.unique k
theorem setS.bd {l t n : Int} (h : setS l t n) : -1 ≤ n ∧ n ≤ 180 := by
  rcases h with ⟨_, rfl⟩ | ⟨_, ⟨rfl, _⟩ | ⟨h0, h1, _⟩⟩ <;> omega
def SetRet (l t : Int) (w : World) (e : Ending) (w' : World) : Prop := ∃ n : Int, e = .returned (.int .i64 n) ∧ setS l t n ∧ Below w.heap.size w w'
/-- Of the hour angles above k none, and the greatest below k. -/
def Above (p : Int → Bool) (k : Int) : Prop := ∀ h, k < h → h ≤ 180 → p h = false
def SoFar (p : Int → Bool) (k n : Int) : Prop := (n = -1 ∧ ∀ h, 0 ≤ h → h < k → p h = false) ∨ (0 ≤ n ∧ n < k ∧ p n = true ∧ ∀ h, n < h → h < k → p h = false)
theorem SoFar.no {p : Int → Bool} {k n : Int} (h : SoFar p k n) (hp : p k = false) : SoFar p (k + 1) n := by
  rcases h with ⟨rfl, h⟩ | ⟨h0, h1, h2, h3⟩
  · refine .inl ⟨rfl, fun j j0 j1 => ?_⟩
    by_cases e : j = k
    · rw [e]; exact hp
    · exact h j j0 (by omega)
  · refine .inr ⟨h0, by omega, h2, fun j j0 j1 => ?_⟩
    by_cases e : j = k
    · rw [e]; exact hp
    · exact h3 j j0 (by omega)
theorem SoFar.yes {p : Int → Bool} {k : Int} (h0 : 0 ≤ k) (hp : p k = true) : SoFar p (k + 1) k := .inr ⟨h0, by omega, hp, fun j j0 j1 => by omega⟩
theorem SoFar.all {p : Int → Bool} {n : Int} (h : SoFar p 181 n) : SetIs p n := by
  rcases h with ⟨rfl, h⟩ | ⟨h0, h1, h2, h3⟩
  · exact .inl ⟨rfl, fun j j0 j1 => h j j0 (by omega)⟩
  · exact .inr ⟨h0, by omega, h2, fun j j0 j1 => h3 j j0 (by omega)⟩
theorem Above.next {p : Int → Bool} {k : Int} (h : Above p k) (hp : p k = false) : Above p (k - 1) := by
  intro j j0 j1
  by_cases e : j = k
  · rw [e]; exact hp
  · exact h j (by omega) j1
end Go.Proofs.Ytigndpajpofofaa
