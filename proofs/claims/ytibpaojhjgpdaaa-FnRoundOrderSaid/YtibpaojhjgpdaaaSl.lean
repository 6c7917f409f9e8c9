/- Slices of pairs of numbers: how they lie in memory. -/
import Derived.Test.YtibpaojhjgpdaaaHlp
import Derived.Laws.MakeOwn
namespace Go.Proofs.Ytibpaojhjgpdaaa
open Go.ChangeShapes Go.WideShapes Go.ChangeAt Go.RowKit
set_option linter.unusedVariables false

def flat : List (Int × Int) → List Value
  | [] => []
  | p :: r => .int .i64 p.1 :: .int .i64 p.2 :: flat r
theorem flat_len : ∀ xs : List (Int × Int), (flat xs).length = 2 * xs.length
  | [] => rfl
  | p :: r => by simp [flat, flat_len r]; omega
theorem flat_even : ∀ (xs : List (Int × Int)) (i : Nat) (h : i < xs.length), (flat xs)[2 * i]? = some (.int .i64 xs[i].1)
  | [], i, h => by simp at h
  | p :: r, 0, h => by simp [flat]
  | p :: r, i + 1, h => by
    have := flat_even r i (by simpa using h)
    rw [show 2 * (i + 1) = 2 * i + 1 + 1 by omega]
    simpa [flat] using this
theorem flat_odd : ∀ (xs : List (Int × Int)) (i : Nat) (h : i < xs.length), (flat xs)[2 * i + 1]? = some (.int .i64 xs[i].2)
  | [], i, h => by simp at h
  | p :: r, 0, h => by simp [flat]
  | p :: r, i + 1, h => by
    have := flat_odd r i (by simpa using h)
    rw [show 2 * (i + 1) + 1 = 2 * i + 1 + 1 + 1 by omega]
    simpa [flat] using this
theorem flat_set : ∀ (xs : List (Int × Int)) (i : Nat) (h : i < xs.length) (a b : Int), ((flat xs).set (2 * i) (.int .i64 a)).set (2 * i + 1) (.int .i64 b) = flat (xs.set i (a, b))
  | [], i, h, a, b => by simp at h
  | p :: r, 0, h, a, b => by simp [flat]
  | p :: r, i + 1, h, a, b => by
    have := flat_set r i (by simpa using h) a b
    rw [show 2 * (i + 1) = 2 * i + 1 + 1 by omega]
    simp [flat, this]
theorem flat_rep : ∀ n : Nat, flat (List.replicate n (0, 0)) = List.replicate (n * 2) (.int .i64 0)
  | 0 => rfl
  | n + 1 => by
    rw [show (n + 1) * 2 = n * 2 + 1 + 1 by omega, List.replicate_succ, List.replicate_succ, List.replicate_succ, ← flat_rep n]; rfl
theorem made_flat (n : Nat) : madeCells #[.int .i64 0, .int .i64 0] (n * 2) = (flat (List.replicate n (0, 0))).toArray := by
  rw [flat_rep]
  apply Array.ext
  · simp [madeCells]
  · intro i h1 h2
    have : i % 2 = 0 ∨ i % 2 = 1 := by omega
    rcases this with e | e <;> simp [madeCells, e]
theorem cel_next {w w' : World} {b o : Nat} {v : Value} (h : w.cell? ⟨b, o, none⟩ = some v) (hw : Below w.heap.size w w') : w'.cell? ⟨b, o, none⟩ = some v := by
  rw [hw.cell (p := ⟨b, o, none⟩) (World.block_lt_of_cell? w _ h)]; exact h
/-- A slice that reads as a list of pairs. -/
def WRow (w : World) (A : Option Addr) (xs : List (Int × Int)) : Prop :=
  xs = [] ∨ ∃ b off : Nat, A = some ⟨b, off, none⟩ ∧ ∀ i (h : i < xs.length), w.cell? ⟨b, off + i * 2, none⟩ = some (.int .i64 xs[i].1) ∧ w.cell? ⟨b, off + i * 2 + 1, none⟩ = some (.int .i64 xs[i].2)
theorem WRow.nil (w : World) (A : Option Addr) : WRow w A [] := .inl rfl
theorem WRow.at_ {w : World} {A : Option Addr} {xs : List (Int × Int)} (h : WRow w A xs) {i : Nat} (hi : i < xs.length) :
    ∃ b off : Nat, A = some ⟨b, off, none⟩ ∧ b < w.heap.size ∧ w.cell? ⟨b, off + i * 2, none⟩ = some (.int .i64 xs[i].1) ∧ w.cell? ⟨b, off + i * 2 + 1, none⟩ = some (.int .i64 xs[i].2) := by
  rcases h with rfl | ⟨b, off, rfl, h⟩
  · simp at hi
  · exact ⟨b, off, rfl, World.block_lt_of_cell? w _ (h i hi).1, (h i hi).1, (h i hi).2⟩
theorem WRow.next {w w' : World} {A : Option Addr} {xs : List (Int × Int)} (h : WRow w A xs) (hw : Below w.heap.size w w') : WRow w' A xs := by
  rcases h with rfl | ⟨b, off, rfl, h⟩
  · exact .inl rfl
  · refine .inr ⟨b, off, rfl, fun i hi => ?_⟩
    obtain ⟨h1, h2⟩ := h i hi
    exact ⟨by rw [hw.cell (p := ⟨b, _, none⟩) (World.block_lt_of_cell? w _ h1)]; exact h1, by rw [hw.cell (p := ⟨b, _, none⟩) (World.block_lt_of_cell? w _ h2)]; exact h2⟩
/-- A block that is just these pairs. -/
def WBlk (w : World) (g : Nat) (T : TypeId) (xs : List (Int × Int)) : Prop := w.heap[g]? = some (.cells (flat xs).toArray T (0, 0))
theorem WBlk.cell {w : World} {g : Nat} {T : TypeId} {xs : List (Int × Int)} (h : WBlk w g T xs) (i : Nat) (hi : i < xs.length) :
    w.cell? ⟨g, i * 2, none⟩ = some (.int .i64 xs[i].1) ∧ w.cell? ⟨g, i * 2 + 1, none⟩ = some (.int .i64 xs[i].2) := by
  have h1 := flat_even xs i hi
  have h2 := flat_odd xs i hi
  rw [show i * 2 = 2 * i by omega]
  unfold WBlk at h
  constructor
  · simp [World.cell?, h, h1]
  · simp [World.cell?, h, h2]
theorem WBlk.frozen {w : World} {g : Nat} {T : TypeId} {xs : List (Int × Int)} (h : WBlk w g T xs) (i : Nat) : w.frozen? ⟨g, i, none⟩ = false := by
  unfold WBlk at h
  simp [World.frozen?, h]
theorem WBlk.lt {w : World} {g : Nat} {T : TypeId} {xs : List (Int × Int)} (h : WBlk w g T xs) : g < w.heap.size := blk_lt h
theorem WBlk.next {w w' : World} {g : Nat} {T : TypeId} {xs : List (Int × Int)} (h : WBlk w g T xs) (hw : Below w.heap.size w w') : WBlk w' g T xs := blk_next h hw
theorem WBlk.row {w : World} {g : Nat} {T : TypeId} {xs : List (Int × Int)} (h : WBlk w g T xs) : WRow w (some ⟨g, 0, none⟩) xs :=
  .inr ⟨g, 0, rfl, fun i hi => by have := h.cell i hi; simpa using this⟩
theorem blk_setAt {w : World} {g i : Nat} {cs : Array Value} {T : TypeId} {v : Value} (h : w.heap[g]? = some (.cells cs T (0, 0))) : (w.setCell ⟨g, i, none⟩ v).heap[g]? = some (.cells (cs.setIfInBounds i v) T (0, 0)) := by
  simp [World.setCell, Array.getElem?_modify, h]
theorem WBlk.set {w : World} {g : Nat} {T : TypeId} {xs : List (Int × Int)} (h : WBlk w g T xs) (i : Nat) (hi : i < xs.length) (a b : Int) :
    WBlk ((w.setCell ⟨g, i * 2, none⟩ (.int .i64 a)).setCell ⟨g, i * 2 + 1, none⟩ (.int .i64 b)) g T (xs.set i (a, b)) := by
  have := blk_setAt (i := i * 2 + 1) (v := .int .i64 b) (blk_setAt (i := i * 2) (v := .int .i64 a) h)
  unfold WBlk
  rw [this, ← flat_set xs i hi a b]
  simp [Nat.mul_comm]
theorem WRow.of_lits {w : World} {g : Nat} {T : TypeId} {o : Obj} (xs : List (Int × Int)) (h : w.heap[g]? = some o) (ho : o = .cells (flat xs).toArray T (0, 0)) : WRow w (some ⟨g, 0, none⟩) xs :=
  WBlk.row (T := T) (by unfold WBlk; rw [h, ho])
end Go.Proofs.Ytibpaojhjgpdaaa
