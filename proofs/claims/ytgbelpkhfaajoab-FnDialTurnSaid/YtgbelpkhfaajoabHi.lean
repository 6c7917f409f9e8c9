/- Contracts of lines with their results under names. -/
import Derived.Test.YtgbelpkhfaajoabHw
import Derived.Test.YtgbelpkhfaajoabHd
import Derived.Test.YtgbelpkhfaajoabHo
namespace Go.Proofs.Ytgbelpkhfaajoab
open Go Go.ChangeShapes Go.WideShapes Go.ChangeAt Go.RowKit
set_option linter.unusedSimpArgs false
set_option linter.unusedVariables false

theorem iLn_is {l h x y : Int} (w : World) (hl : laB l = true) (hh : hrB h = true) (hx : lnE l h = x) (hy : lnN h = y) : Calls Try.prog 16 #[.int .i64 l, .int .i64 h] w fun e w' => e = .returned (.tuple #[.agg #[.int .i64 x, .int .i64 y], .bool true]) ∧ Below w.heap.size w w' := by subst hx; subst hy; exact iLn_t l h w hl hh
theorem sLn_is {l h x y : Int} (w : World) (hl : laB l = true) (hh : hrB h = true) (hx : lnE l h = x) (hy : lnN h = y) : Calls Try.prog 17 #[.int .i64 l, .int .i64 h] w fun e w' => e = .returned (.tuple #[.agg #[.int .i64 x, .int .i64 y], .bool true]) ∧ Below w.heap.size w w' := by subst hx; subst hy; exact sLn_t l h w hl hh
theorem iWl_is {l h x y : Int} (w : World) (hl : waB l = true) (hh : hrB h = true) (hx : wlE l h = x) (hy : wlN h = y) : Calls Try.prog 20 #[.int .i64 l, .int .i64 h] w fun e w' => e = .returned (.tuple #[.agg #[.int .i64 x, .int .i64 y], .bool true]) ∧ Below w.heap.size w w' := by subst hx; subst hy; exact iWl_t l h w hl hh
theorem sWl_is {l h x y : Int} (w : World) (hl : waB l = true) (hh : hrB h = true) (hx : wlE l h = x) (hy : wlN h = y) : Calls Try.prog 21 #[.int .i64 l, .int .i64 h] w fun e w' => e = .returned (.tuple #[.agg #[.int .i64 x, .int .i64 y], .bool true]) ∧ Below w.heap.size w w' := by subst hx; subst hy; exact sWl_t l h w hl hh
theorem iHV_is {h : Int} {r : Bool} (w : World) (hr : hrB h = r) : Calls Try.prog 12 #[.int .i64 h] w fun e w' => e = .returned (.bool r) ∧ w = w' := by subst hr; exact iHV_any h w
theorem iTok_is {s : ByteArray} {r : Bool} (w : World) (hs : s.size ≤ maxLen) (hr : tokB s = r) : Calls Try.prog 39 #[.string s] w fun e w' => e = .returned (.bool r) ∧ w = w' := by subst hr; exact iTok_any s w hs
theorem iDT_is {a b x y : Int} (w : World) (hw : wvB a b = true) (hx : -a = x) (hy : -b = y) : Calls Try.prog 35 #[.agg #[.int .i64 a, .int .i64 b]] w fun e w' => e = .returned (.agg #[.int .i64 x, .int .i64 y]) ∧ Below w.heap.size w w' := by subst hx; subst hy; exact iDT_t a b w hw
theorem sHV_is {h : Int} {r : Bool} (w : World) (hr : hrB h = r) : Calls Try.prog 13 #[.int .i64 h] w fun e w' => e = .returned (.bool r) ∧ w = w' := by subst hr; exact sHV_any h w
theorem sTok_is {s : ByteArray} {r : Bool} (w : World) (hs : s.size ≤ maxLen) (hr : tokB s = r) : Calls Try.prog 40 #[.string s] w fun e w' => e = .returned (.bool r) ∧ w = w' := by subst hr; exact sTok_any s w hs
theorem sDT_is {a b x y : Int} (w : World) (hw : wvB a b = true) (hx : -a = x) (hy : -b = y) : Calls Try.prog 37 #[.agg #[.int .i64 a, .int .i64 b]] w fun e w' => e = .returned (.agg #[.int .i64 x, .int .i64 y]) ∧ Below w.heap.size w w' := by subst hx; subst hy; exact sDT_t a b w hw
theorem iWV_is4 {a b : Int} {r : Bool} (w : World) (hr : wvB a b = r) : Calls Try.prog 33 #[.agg #[.int .i64 a, .int .i64 b]] w fun e w' => e = .returned (.bool r) ∧ Below w.heap.size w w' := by subst hr; exact iWV_any a b w
theorem iHalf_is4 {a b r : Int} (w : World) (hr : halfI a b = r) : Calls Try.prog 34 #[.agg #[.int .i64 a, .int .i64 b]] w fun e w' => e = .returned (.int .i64 r) ∧ Below w.heap.size w w' := by subst hr; exact iHalf_any a b w
theorem la_90 (l : Int) : laB (90 - l) = waB l := by unfold laB waB; rw [Bool.eq_iff_iff]; simp; omega
end Go.Proofs.Ytgbelpkhfaajoab
