/- What the laws of chapter 1 draw out of a code. -/
import Derived.Test.YtkeghnbckndgfaaRd3
import Derived.Test.YtkeghnbckndgfaaCa
namespace Go.Proofs.Ytkeghnbckndgfaa
open Go.ChangeShapes Go.WideShapes Go.ChangeAt Go.RowKit
set_option linter.unusedSimpArgs false

def Drew1 (lo hi : Int) (w : World) (e : Ending) (w' : World) : Prop := ∃ k : Int, e = .returned (.int .i64 k) ∧ lo ≤ k ∧ k ≤ hi ∧ Below w.heap.size w w'
def DrewD (w : World) (e : Ending) (w' : World) : Prop := ∃ y m d : Int, e = .returned (.agg #[.int .i64 y, .int .i64 m, .int .i64 d]) ∧ -10 ≤ y ∧ y ≤ 5000 ∧ -10 ≤ m ∧ m ≤ 100 ∧ -10 ≤ d ∧ d ≤ 100 ∧ Below w.heap.size w w'
theorem drWeekOf_any (a : Option Addr) (len cap : Nat) (w : World) (h : CodeOk w a len cap) :
    Calls Try.prog 4 #[.slice a len cap] w (DrewD w) := by
  go_enter Try.func4, Try.ntmps4
  go_wp2_with fail
  refine (open_any _ _ _ _ (code_below h (bel1 _ _))).mono ?_; rintro e w1 ⟨B, rfl, hB, h1, hb1⟩
  obtain ⟨hH1, hB1⟩ := ownb hb1
  have hz1 := blk_lt hH1
  have hB' : w.heap.size < B := by simp at hB; omega
  clear hB
  go_wp2_with fail
  refine (date_any B 0 _ _ h1 (by omega) (by omega) (by omega)).mono ?_; rintro e w2 ⟨y, m, d, rfl, y0, y1, m0, m1, d0, d1, _, hx⟩
  have hH2 := blk_ext hH1 hx (by omega)
  have hB2 := hB1.trans (hx.below (N := w.heap.size) (by omega) (by omega))
  obtain ⟨c0, c1, c2, f0, f1, f2, hz⟩ := blk3 hH2
  go_wp2
  exact bodyPost_ret (v := .agg #[.int .i64 y, .int .i64 m, .int .i64 d]) (by simp [results, Try.results4, go_sem, c0, c1, c2]) rfl ⟨_, _, _, rfl, y0, y1, m0, m1, d0, d1, (((hB2.setCell (p := ⟨_, _, _⟩) (by simp) _).setCell (p := ⟨_, _, _⟩) (by simp) _).setCell (p := ⟨_, _, _⟩) (by simp) _)⟩
end Go.Proofs.Ytkeghnbckndgfaa
