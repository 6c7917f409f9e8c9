/- Slices of House: copies, comparisons, sizes, marks. -/
import Derived.Test.YtifnengegbiijabRows
import Derived.Test.YtifnengegbiijabGo
namespace Go.Proofs.Ytifnengegbiijab
open Go Go.ChangeShapes Go.WideShapes Go.ChangeAt Go.RowKit Go.Deep
set_option linter.unusedSimpArgs false
set_option linter.unusedVariables false
set_option linter.unnecessarySimpa false

abbrev VHouse := Int × Int × Int
def encHouse : Enc VHouse := ⟨3, fun x => [.int .i64 x.1, .int .i64 x.2.1, .int .i64 x.2.2], fun _ => rfl, by intro x u hu; simp at hu; rcases hu with rfl | rfl | rfl <;> rfl, by omega⟩
theorem rowHouse {w : World} {A : Option Addr} {xs : List VHouse} (h : SRow encHouse w A xs) {i : Nat} (hi : i < xs.length) : ∃ b off : Nat, A = some ⟨b, off, none⟩ ∧ b < w.heap.size ∧ w.cell? ⟨b, off + i * 3, none⟩ = some (.int .i64 xs[i].1) ∧ w.cell? ⟨b, off + i * 3 + 1, none⟩ = some (.int .i64 xs[i].2.1) ∧ w.cell? ⟨b, off + i * 3 + 2, none⟩ = some (.int .i64 xs[i].2.2) := by
  obtain ⟨b, off, e, hb, hc⟩ := h.at_ hi
  exact ⟨b, off, e, hb, by have := hc 0 _ rfl; simpa [encHouse, Nat.add_assoc] using this, by have := hc 1 _ rfl; simpa [encHouse, Nat.add_assoc] using this, by have := hc 2 _ rfl; simpa [encHouse, Nat.add_assoc] using this⟩
theorem blkHouse {w : World} {g : Nat} {T : TypeId} {xs : List VHouse} (h : SBlk encHouse w g T xs) {i : Nat} (hi : i < xs.length) : w.cell? ⟨g, i * 3, none⟩ = some (.int .i64 xs[i].1) ∧ w.cell? ⟨g, i * 3 + 1, none⟩ = some (.int .i64 xs[i].2.1) ∧ w.cell? ⟨g, i * 3 + 2, none⟩ = some (.int .i64 xs[i].2.2) :=
  ⟨by have := h.cell i hi 0 _ rfl; simpa [encHouse] using this, by have := h.cell i hi 1 _ rfl; simpa [encHouse] using this, by have := h.cell i hi 2 _ rfl; simpa [encHouse] using this⟩
theorem ownHouse {w : World} {base g cap : Nat} {T : TypeId} {xs : List VHouse} (h : SOwn encHouse w base T (some ⟨g, 0, none⟩) cap xs) {i : Nat} (hi : i < xs.length) : w.cell? ⟨g, i * 3, none⟩ = some (.int .i64 xs[i].1) ∧ w.cell? ⟨g, i * 3 + 1, none⟩ = some (.int .i64 xs[i].2.1) ∧ w.cell? ⟨g, i * 3 + 2, none⟩ = some (.int .i64 xs[i].2.2) :=
  ⟨by have := h.cell i hi 0 _ rfl; simpa [encHouse] using this, by have := h.cell i hi 1 _ rfl; simpa [encHouse] using this, by have := h.cell i hi 2 _ rfl; simpa [encHouse] using this⟩
theorem infoHouse : (Try.prog.info? 35).map (fun i => (i.zero, i.size, i.bytes)) = some (some (.agg #[.int .i64 0, .int .i64 0, .int .i64 0]), 3, 24) := by kernel_rfl
def CopyHouse (xs : List VHouse) (w : World) (e : Ending) (w' : World) : Prop := ∃ g : Nat, e = .returned (.slice (some ⟨g, 0, none⟩) xs.length xs.length) ∧ w.heap.size ≤ g ∧ SBlk encHouse w' g 35 xs ∧ Below w.heap.size w w'
def mkHouse (k0 : Nat) (i : Nat) : VHouse := (((k0 + 3 * i : Nat) : Int), ((k0 + 3 * i + 1 : Nat) : Int), ((k0 + 3 * i + 2 : Nat) : Int))
section
variable {H : Type} {enc : TypeId × Value → H} {w : World} {base : Nat} {spare : Nat → Bool} {held : Bool}
end
/-- What is left behind a slice's size. -/
def LeftHouse (L : Int) (n : Nat) (r : Int) : Prop := r = -1 ∨ (0 ≤ r ∧ r ≤ L ∧ (n : Int) ≤ L)
end Go.Proofs.Ytifnengegbiijab
