/- The order of ways round: numbers. -/
import Derived.Test.YtibpaojhjgpdaaaRo1
namespace Go.Proofs.Ytibpaojhjgpdaaa
open Go.ChangeShapes Go.WideShapes Go.ChangeAt Go.RowKit
set_option linter.unusedSimpArgs false
set_option linter.unusedVariables false
set_option linter.unnecessarySimpa false

def nat (l : List Nat) : List Int := l.map (fun i : Nat => (i : Int))
theorem nat_len (l : List Nat) : (nat l).length = l.length := by simp [nat]
theorem nat_at (l : List Nat) (i : Nat) (h : i < (nat l).length) : (nat l)[i] = ((l[i]'(by simpa [nat] using h) : Nat) : Int) := by simp [nat]
theorem wy_at {xs : List (Int × Int)} {i : Nat} (h : i < xs.length) : wy xs i = xs[i] := by simp [wy, h]
theorem all_go {xs : List (Int × Int)} (h : wsB xs = true) : AllGo xs := fun i hi => by
  rw [wy_at hi]; exact (goB_iff.1 (go_bd h i hi)).2
end Go.Proofs.Ytibpaojhjgpdaaa
