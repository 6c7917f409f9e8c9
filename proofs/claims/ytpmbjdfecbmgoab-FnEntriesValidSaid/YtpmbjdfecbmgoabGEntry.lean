/- Slices of Entry: copies, comparisons, sizes, marks. -/
import Derived.Test.YtpmbjdfecbmgoabRows
import Derived.Test.YtpmbjdfecbmgoabGo
import Derived.Test.YtpmbjdfecbmgoabByt
namespace Go.Proofs.Ytpmbjdfecbmgoab
open Go Go.ChangeShapes Go.WideShapes Go.ChangeAt Go.RowKit Go.Deep
set_option linter.unusedSimpArgs false
set_option linter.unusedVariables false
set_option linter.unnecessarySimpa false

abbrev VEntry := Int × ByteArray
def encEntry : Enc VEntry := ⟨2, fun x => [.int .i64 x.1, .string x.2], fun _ => rfl, by intro x u hu; simp at hu; rcases hu with rfl | rfl <;> rfl, by omega⟩
theorem rowEntry {w : World} {A : Option Addr} {xs : List VEntry} (h : SRow encEntry w A xs) {i : Nat} (hi : i < xs.length) : ∃ b off : Nat, A = some ⟨b, off, none⟩ ∧ b < w.heap.size ∧ w.cell? ⟨b, off + i * 2, none⟩ = some (.int .i64 xs[i].1) ∧ w.cell? ⟨b, off + i * 2 + 1, none⟩ = some (.string xs[i].2) := by
  obtain ⟨b, off, e, hb, hc⟩ := h.at_ hi
  exact ⟨b, off, e, hb, by have := hc 0 _ rfl; simpa [encEntry, Nat.add_assoc] using this, by have := hc 1 _ rfl; simpa [encEntry, Nat.add_assoc] using this⟩
theorem blkEntry {w : World} {g : Nat} {T : TypeId} {xs : List VEntry} (h : SBlk encEntry w g T xs) {i : Nat} (hi : i < xs.length) : w.cell? ⟨g, i * 2, none⟩ = some (.int .i64 xs[i].1) ∧ w.cell? ⟨g, i * 2 + 1, none⟩ = some (.string xs[i].2) :=
  ⟨by have := h.cell i hi 0 _ rfl; simpa [encEntry] using this, by have := h.cell i hi 1 _ rfl; simpa [encEntry] using this⟩
theorem ownEntry {w : World} {base g cap : Nat} {T : TypeId} {xs : List VEntry} (h : SOwn encEntry w base T (some ⟨g, 0, none⟩) cap xs) {i : Nat} (hi : i < xs.length) : w.cell? ⟨g, i * 2, none⟩ = some (.int .i64 xs[i].1) ∧ w.cell? ⟨g, i * 2 + 1, none⟩ = some (.string xs[i].2) :=
  ⟨by have := h.cell i hi 0 _ rfl; simpa [encEntry] using this, by have := h.cell i hi 1 _ rfl; simpa [encEntry] using this⟩
theorem infoEntry : (Try.prog.info? 40).map (fun i => (i.zero, i.size, i.bytes)) = some (some (.agg #[.int .i64 0, .string ByteArray.empty]), 2, 24) := by kernel_rfl
def CopyEntry (xs : List VEntry) (w : World) (e : Ending) (w' : World) : Prop := ∃ g : Nat, e = .returned (.slice (some ⟨g, 0, none⟩) xs.length xs.length) ∧ w.heap.size ≤ g ∧ SBlk encEntry w' g 40 xs ∧ Below w.heap.size w w'
def mkEntry (k0 : Nat) (i : Nat) : VEntry := (((k0 + 2 * i : Nat) : Int), mtext (k0 + 2 * i + 1))
section
variable {H : Type} {enc : TypeId × Value → H} {w : World} {base : Nat} {spare : Nat → Bool} {held : Bool}
end
/-- What is left behind a slice's size. -/
def LeftEntry (L : Int) (n : Nat) (r : Int) : Prop := r = -1 ∨ (0 ≤ r ∧ r ≤ L ∧ (n : Int) ≤ L)
end Go.Proofs.Ytpmbjdfecbmgoab
