/- Slices of Plant: copies, comparisons, sizes, marks. -/
import Derived.Test.YtoklehmoeollfaaRows
import Derived.Test.YtoklehmoeollfaaGo
namespace Go.Proofs.Ytoklehmoeollfaa
open Go Go.ChangeShapes Go.WideShapes Go.ChangeAt Go.RowKit Go.Deep
set_option linter.unusedSimpArgs false
set_option linter.unusedVariables false
set_option linter.unnecessarySimpa false

abbrev VPlant := Int × Int
def encPlant : Enc VPlant := ⟨2, fun x => [.int .i64 x.1, .int .i64 x.2], fun _ => rfl, by intro x u hu; simp at hu; rcases hu with rfl | rfl <;> rfl, by omega⟩
theorem rowPlant {w : World} {A : Option Addr} {xs : List VPlant} (h : SRow encPlant w A xs) {i : Nat} (hi : i < xs.length) : ∃ b off : Nat, A = some ⟨b, off, none⟩ ∧ b < w.heap.size ∧ w.cell? ⟨b, off + i * 2, none⟩ = some (.int .i64 xs[i].1) ∧ w.cell? ⟨b, off + i * 2 + 1, none⟩ = some (.int .i64 xs[i].2) := by
  obtain ⟨b, off, e, hb, hc⟩ := h.at_ hi
  exact ⟨b, off, e, hb, by have := hc 0 _ rfl; simpa [encPlant, Nat.add_assoc] using this, by have := hc 1 _ rfl; simpa [encPlant, Nat.add_assoc] using this⟩
theorem blkPlant {w : World} {g : Nat} {T : TypeId} {xs : List VPlant} (h : SBlk encPlant w g T xs) {i : Nat} (hi : i < xs.length) : w.cell? ⟨g, i * 2, none⟩ = some (.int .i64 xs[i].1) ∧ w.cell? ⟨g, i * 2 + 1, none⟩ = some (.int .i64 xs[i].2) :=
  ⟨by have := h.cell i hi 0 _ rfl; simpa [encPlant] using this, by have := h.cell i hi 1 _ rfl; simpa [encPlant] using this⟩
theorem ownPlant {w : World} {base g cap : Nat} {T : TypeId} {xs : List VPlant} (h : SOwn encPlant w base T (some ⟨g, 0, none⟩) cap xs) {i : Nat} (hi : i < xs.length) : w.cell? ⟨g, i * 2, none⟩ = some (.int .i64 xs[i].1) ∧ w.cell? ⟨g, i * 2 + 1, none⟩ = some (.int .i64 xs[i].2) :=
  ⟨by have := h.cell i hi 0 _ rfl; simpa [encPlant] using this, by have := h.cell i hi 1 _ rfl; simpa [encPlant] using this⟩
def mkPlant (k0 : Nat) (i : Nat) : VPlant := (((k0 + 2 * i : Nat) : Int), ((k0 + 2 * i + 1 : Nat) : Int))
section
variable {H : Type} {enc : TypeId × Value → H} {w : World} {base : Nat} {spare : Nat → Bool} {held : Bool}
end
/-- What is left behind a slice's size. -/
def LeftPlant (L : Int) (n : Nat) (r : Int) : Prop := r = -1 ∨ (0 ≤ r ∧ r ≤ L ∧ (n : Int) ≤ L)
end Go.Proofs.Ytoklehmoeollfaa
