/- Sums and comparisons in the laws of cities. -/
import Derived.Test.YtidppabconifkabYg
import Derived.Test.YtidppabconifkabQk
import Derived.Test.YtidppabconifkabIs
namespace Go.Proofs.Ytidppabconifkab
open Go Go.ChangeShapes Go.WideShapes Go.ChangeAt Go.RowKit
set_option linter.unusedSimpArgs false
set_option linter.unusedVariables false

theorem SRow.toIY {w : World} {A : Option Addr} {xs : List Int} (h : SRow encNum w A xs) : IRow w A xs := by
  rcases h with h | ⟨b, off, e, hc⟩
  · exact .inl h
  · exact .inr ⟨b, off, e, fun i hi => by have := hc i hi 0 _ rfl; simpa [encNum] using this⟩
theorem iSh_len (d : Int) (A : Option Addr) (cap : Nat) (xs : List Int) (e f : Int) {l : List Int} {n q : Nat} (w : World) (hn : xs.length = n) (h : SRow encNum w A xs) (hl : n ≤ 2000000) (hr : shL d xs e f = l) (hq : l.length = q) : Calls Try.prog 68 #[.agg #[.int .i64 d, .slice A n cap], .int .i64 e, .int .i64 f] w fun e w' => ∃ (V : Option Addr) (cv : Nat), e = .returned (.slice V q cv) ∧ SOwn encNum w' w.heap.size 3 V cv l ∧ Below w.heap.size w w' := by subst hq; exact iSh_is d A cap xs e f w hn h hl hr
theorem sCset_len (d : Int) (A : Option Addr) (cap : Nat) (xs : List Int) (c t : Int) {b : Bool} {r : Int} {l : List Int} {n q : Nat} (w : World) (hn : xs.length = n) (h : SRow encNum w A xs) (hl : n ≤ 2000000) (hb : csB d xs c t = b) (hr : csD d xs c t = r) (hl2 : csL d xs c t = l) (hq : l.length = q) : Calls Try.prog 65 #[.agg #[.int .i64 d, .slice A n cap], .int .i64 c, .int .i64 t] w fun e w' => ∃ (V : Option Addr) (cv : Nat), e = .returned (.tuple #[.agg #[.int .i64 r, .slice V q cv], .bool b]) ∧ SOwn encNum w' w.heap.size 3 V cv l ∧ Below w.heap.size w w' := by subst hq; exact sCset_is d A cap xs c t w hn h hl hb hr hl2
theorem sLc_len (d : Int) (A : Option Addr) (cap : Nat) (xs : List Int) (e f : Int) {l : List Int} {n q : Nat} (w : World) (hn : xs.length = n) (h : SRow encNum w A xs) (hl : n ≤ 2000000) (hr : liL d xs e f = l) (hq : l.length = q) : Calls Try.prog 63 #[.agg #[.int .i64 d, .slice A n cap], .int .i64 e, .int .i64 f] w fun e w' => ∃ (V : Option Addr) (cv : Nat), e = .returned (.slice V q cv) ∧ SOwn encNum w' w.heap.size 3 V cv l ∧ Below w.heap.size w w' := by subst hq; exact sLc_is d A cap xs e f w hn h hl hr
theorem SRow.cutY {α : Type} {E : Enc α} {w : World} {A : Option Addr} {xs : List α} (h : SRow E w A xs) (k : Nat) : SRow E w A (xs.take k) := by
  rcases h with h | ⟨b, off, e, hc⟩
  · left; rw [h]; simp
  · refine .inr ⟨b, off, e, fun i hi j v hv => ?_⟩
    have hi2 : i < xs.length := by rw [List.length_take] at hi; omega
    rw [List.getElem_take] at hv
    exact hc i hi2 j v hv
end Go.Proofs.Ytidppabconifkab
