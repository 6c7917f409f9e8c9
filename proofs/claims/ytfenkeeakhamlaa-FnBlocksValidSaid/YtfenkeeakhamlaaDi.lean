/- What the laws of lists of blocks draw. -/
import Derived.Test.YtfenkeeakhamlaaDd
import Derived.Test.YtfenkeeakhamlaaDg
namespace Go.Proofs.Ytfenkeeakhamlaa
open Go Go.ChangeShapes Go.WideShapes Go.ChangeAt Go.RowKit
set_option linter.unusedSimpArgs false
set_option linter.unusedVariables false

theorem SOwn.set_far {α : Type} {E : Enc α} {w : World} {base C i : Nat} {T : TypeId} {A : Option Addr} {cap : Nat} {xs : List α} (h : SOwn E w base T A cap xs) (hC : C < base) (v : Value) : SOwn E (w.setCell ⟨C, i, none⟩ v) base T A cap xs := by
  refine h.grown_far (row := some C) (setAll_grown [v] i ⟨rfl, rfl, rfl, Nat.le_refl _, fun _ _ _ => rfl⟩) (fun g hg e => ?_)
  rcases h.form with ⟨e2, _⟩ | ⟨g2, e2, hb, _⟩
  · rw [e2] at hg; cases hg
  · rw [e2] at hg; cases hg; cases e; omega
def DrewBlocks (w : World) (e : Ending) (w' : World) : Prop := ∃ (xs : List VBlock) (A : Option Addr) (cap : Nat), e = .returned (.slice A xs.length cap) ∧ xs.length ≤ 6 ∧ SOwn encBlock w' w.heap.size 27 A cap xs ∧ Below w.heap.size w w'
set_option maxHeartbeats 2000000 in
theorem drBlocksValid_any (a : Option Addr) (len cap : Nat) (w : World) (h : CodeOk w a len cap) : Calls Try.prog 5 #[.slice a len cap] w (DrewBlocks w) := by
  go_enter Try.func5, Try.ntmps5
  go_wp2_with fail
  refine (open_any _ _ _ _ h).mono ?_; rintro e w1 ⟨B, rfl, hB, h1, hb1⟩
  go_wp2_with fail
  refine (blocks_any B 0 2 _ h1 (by omega) (by omega) (by omega)).mono ?_; rintro e w2 ⟨xs, A, cp, rfl, hx6, hO, _, hx⟩
  have hB2 := hb1.trans (hx.below (N := w.heap.size) (by omega) hb1.size)
  have hO2 := hO.mono hb1.size
  go_wp2_with fail
  go_ret
  exact ⟨xs, A, cp, rfl, hx6, hO2, hB2⟩
def DrewLit (w : World) (e : Ending) (w' : World) : Prop := ∃ (p0 p1 r0 r1 r2 : Int) (xs : List VBlock) (A : Option Addr) (cap : Nat), e = .returned (.tuple #[.agg #[.int .i64 p0, .int .i64 p1], .slice A xs.length cap, .agg #[.int .i64 r0, .int .i64 r1, .int .i64 r2]]) ∧ (-200 ≤ p0 ∧ p0 ≤ 200) ∧ (-200 ≤ p1 ∧ p1 ≤ 200) ∧ (-200 ≤ r0 ∧ r0 ≤ 200) ∧ (-200 ≤ r1 ∧ r1 ≤ 200) ∧ (-200 ≤ r2 ∧ r2 ≤ 200) ∧ xs.length ≤ 6 ∧ SOwn encBlock w' w.heap.size 27 A cap xs ∧ Below w.heap.size w w'
end Go.Proofs.Ytfenkeeakhamlaa
