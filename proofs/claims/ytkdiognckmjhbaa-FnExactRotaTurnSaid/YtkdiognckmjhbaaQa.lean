/- Contracts of chapter 9: beds, plants. -/
import Derived.Test.YtkdiognckmjhbaaZv
import Derived.Test.YtkdiognckmjhbaaGNum
import Derived.Test.YtkdiognckmjhbaaGPlant
import Derived.Test.YtkdiognckmjhbaaQm
import Derived.Test.YtkdiognckmjhbaaBi
namespace Go.Proofs.Ytkdiognckmjhbaa
open Go Go.ChangeShapes Go.WideShapes Go.ChangeAt Go.RowKit
set_option linter.unusedSimpArgs false
set_option linter.unusedVariables false

theorem iIn9 {n a b : Int} {r : Bool} (w : World) (h_ : inV n a b = r) : Calls Try.prog 34 #[.int .i64 n, .int .i64 a, .int .i64 b] w fun E w' => E = .returned (.bool r) ∧ Below w.heap.size w w' := (iIn7_is w h_).mono fun _ _ h => ⟨h.1, h.2 ▸ Below.refl _ _⟩
theorem sIn9 {n a b : Int} {r : Bool} (w : World) (h_ : inV n a b = r) : Calls Try.prog 31 #[.int .i64 n, .int .i64 a, .int .i64 b] w fun E w' => E = .returned (.bool r) ∧ Below w.heap.size w w' := (sIn7_is w h_).mono fun _ _ h => ⟨h.1, h.2 ▸ Below.refl _ _⟩
end Go.Proofs.Ytkdiognckmjhbaa
