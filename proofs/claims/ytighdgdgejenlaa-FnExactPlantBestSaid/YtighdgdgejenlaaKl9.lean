/- Marks into a second argument. -/
import Derived.Test.YtighdgdgejenlaaGPlant
namespace Go.Proofs.Ytighdgdgejenlaa
open Go Go.ChangeShapes Go.WideShapes Go.ChangeAt Go.RowKit
theorem markPlantS_at (base : Nat) (A : Option Addr) (cap : Nat) (xs : List VPlant) (k0 : Nat) {z : Int} {m : Nat} {w : World} (hm : xs.length = m) (hz : z = k0) (hO : SOwn encPlant w base 52 A cap xs) (hl : m ≤ 2000000) (h0 : 1 ≤ k0) (h1 : k0 ≤ 10000000) :
    Calls Try.prog 19 #[.slice A m cap, .int .i64 z] w fun e w' => e = .returned (.int .i64 (z + 2 * m)) ∧ SOwn encPlant w' base 52 A cap (markS (mkPlant k0) m) ∧ w.grownBy w' (Value.ownBlock (.slice A m cap)) := by
  subst hz; exact markPlantS_any base A cap xs k0 hm hO hl h0 h1
end Go.Proofs.Ytighdgdgejenlaa
