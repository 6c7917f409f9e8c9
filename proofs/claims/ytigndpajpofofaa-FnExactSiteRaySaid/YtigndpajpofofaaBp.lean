/- Contracts of chapter 8: blinds with a pause. -/
import Derived.Test.YtigndpajpofofaaBr
namespace Go.Proofs.Ytigndpajpofofaa
open Go Go.ChangeShapes Go.WideShapes Go.ChangeAt Go.RowKit
set_option linter.unusedSimpArgs false
set_option linter.unusedVariables false

theorem SOwn.far2 {α : Type} {E : Enc α} {w : World} {base b cap : Nat} {T : TypeId} {A : Option Addr} {xs : List α} (h : SOwn E w base T A cap xs) (hb : b < base) (u v : Value) : SOwn E ((w.setCell ⟨b, 0, none⟩ u).setCell ⟨b, 1, none⟩ v) base T A cap xs := by
  have hg : w.grownBy ((w.setCell ⟨b, 0, none⟩ u).setCell ⟨b, 1, none⟩ v) (some b) := grown_cellS (grown_cellS ⟨rfl, rfl, rfl, Nat.le_refl _, fun _ _ _ => rfl⟩ u) v
  refine h.grown_far hg (fun g hg e => ?_)
  rcases h.form with ⟨rfl, _⟩ | ⟨g1, rfl, h1, _⟩
  · cases hg
  · simp at hg e; omega
set_option maxHeartbeats 4000000 in
theorem iBl_any (s : Bool) (t : Int) (w : World) :
    Calls Try.prog 37 #[.agg #[.bool s, .int .i64 t]] w fun E w' => E = .returned (.bool (inV t 0 20)) ∧ Below w.heap.size w w' := by
  go_enter Try.func37, Try.ntmps37
  go_wp2_with (go_at_call 55; refine (iIn7 _ _ _ _).mono ?_; rintro E w' ⟨rfl, rfl⟩)
  go_ret
  exact ⟨rfl, bel1 _ _⟩
theorem iBl_is {s : Bool} {t : Int} {r : Bool} (w : World) (h_ : inV t 0 20 = r) : Calls Try.prog 37 #[.agg #[.bool s, .int .i64 t]] w fun E w' => E = .returned (.bool r) ∧ Below w.heap.size w w' := by subst h_; exact iBl_any s t w
set_option maxHeartbeats 4000000 in
theorem sBl_any (s : Bool) (t : Int) (w : World) :
    Calls Try.prog 25 #[.agg #[.bool s, .int .i64 t]] w fun E w' => E = .returned (.bool (inV t 0 20)) ∧ Below w.heap.size w w' := by
  go_enter Try.func25, Try.ntmps25
  go_wp2_with (go_at_call 20; refine (sIn7 _ _ _ _).mono ?_; rintro E w' ⟨rfl, rfl⟩)
  go_ret
  exact ⟨rfl, bel1 _ _⟩
theorem sBl_is {s : Bool} {t : Int} {r : Bool} (w : World) (h_ : inV t 0 20 = r) : Calls Try.prog 25 #[.agg #[.bool s, .int .i64 t]] w fun E w' => E = .returned (.bool r) ∧ Below w.heap.size w w' := by subst h_; exact sBl_any s t w
end Go.Proofs.Ytigndpajpofofaa
