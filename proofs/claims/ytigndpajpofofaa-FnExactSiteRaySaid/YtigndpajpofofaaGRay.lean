/- Slices of Ray: copies, comparisons, sizes, marks. -/
import Derived.Test.YtigndpajpofofaaRows
import Derived.Test.YtigndpajpofofaaGo
namespace Go.Proofs.Ytigndpajpofofaa
open Go Go.ChangeShapes Go.WideShapes Go.ChangeAt Go.RowKit Go.Deep
set_option linter.unusedSimpArgs false
set_option linter.unusedVariables false
set_option linter.unnecessarySimpa false

abbrev VRay := Int × Int × Int
def encRay : Enc VRay := ⟨3, fun x => [.int .i64 x.1, .int .i64 x.2.1, .int .i64 x.2.2], fun _ => rfl, by intro x u hu; simp at hu; rcases hu with rfl | rfl | rfl <;> rfl, by omega⟩
theorem rowRay {w : World} {A : Option Addr} {xs : List VRay} (h : SRow encRay w A xs) {i : Nat} (hi : i < xs.length) : ∃ b off : Nat, A = some ⟨b, off, none⟩ ∧ b < w.heap.size ∧ w.cell? ⟨b, off + i * 3, none⟩ = some (.int .i64 xs[i].1) ∧ w.cell? ⟨b, off + i * 3 + 1, none⟩ = some (.int .i64 xs[i].2.1) ∧ w.cell? ⟨b, off + i * 3 + 2, none⟩ = some (.int .i64 xs[i].2.2) := by
  obtain ⟨b, off, e, hb, hc⟩ := h.at_ hi
  exact ⟨b, off, e, hb, by have := hc 0 _ rfl; simpa [encRay, Nat.add_assoc] using this, by have := hc 1 _ rfl; simpa [encRay, Nat.add_assoc] using this, by have := hc 2 _ rfl; simpa [encRay, Nat.add_assoc] using this⟩
theorem blkRay {w : World} {g : Nat} {T : TypeId} {xs : List VRay} (h : SBlk encRay w g T xs) {i : Nat} (hi : i < xs.length) : w.cell? ⟨g, i * 3, none⟩ = some (.int .i64 xs[i].1) ∧ w.cell? ⟨g, i * 3 + 1, none⟩ = some (.int .i64 xs[i].2.1) ∧ w.cell? ⟨g, i * 3 + 2, none⟩ = some (.int .i64 xs[i].2.2) :=
  ⟨by have := h.cell i hi 0 _ rfl; simpa [encRay] using this, by have := h.cell i hi 1 _ rfl; simpa [encRay] using this, by have := h.cell i hi 2 _ rfl; simpa [encRay] using this⟩
theorem ownRay {w : World} {base g cap : Nat} {T : TypeId} {xs : List VRay} (h : SOwn encRay w base T (some ⟨g, 0, none⟩) cap xs) {i : Nat} (hi : i < xs.length) : w.cell? ⟨g, i * 3, none⟩ = some (.int .i64 xs[i].1) ∧ w.cell? ⟨g, i * 3 + 1, none⟩ = some (.int .i64 xs[i].2.1) ∧ w.cell? ⟨g, i * 3 + 2, none⟩ = some (.int .i64 xs[i].2.2) :=
  ⟨by have := h.cell i hi 0 _ rfl; simpa [encRay] using this, by have := h.cell i hi 1 _ rfl; simpa [encRay] using this, by have := h.cell i hi 2 _ rfl; simpa [encRay] using this⟩
theorem infoRay : (Try.prog.info? 45).map (fun i => (i.zero, i.size, i.bytes)) = some (some (.agg #[.int .i64 0, .int .i64 0, .int .i64 0]), 3, 24) := by kernel_rfl
def CopyRay (xs : List VRay) (w : World) (e : Ending) (w' : World) : Prop := ∃ g : Nat, e = .returned (.slice (some ⟨g, 0, none⟩) xs.length xs.length) ∧ w.heap.size ≤ g ∧ SBlk encRay w' g 45 xs ∧ Below w.heap.size w w'
theorem eqRay_same (x0 : Int) (x1 : Int) (x2 : Int) (w : World) : Calls Try.prog 14 #[.agg #[.int .i64 x0, .int .i64 x1, .int .i64 x2], .agg #[.int .i64 x0, .int .i64 x1, .int .i64 x2]] w fun e w' => e = .returned (.bool true) ∧ Below w.heap.size w w' := by
  go_enter Try.func14, Try.ntmps14
  go_wp2
  go_ret
  exact ⟨rfl, (bel1 _ _).alloc (by simp) _⟩
def mkRay (k0 : Nat) (i : Nat) : VRay := (((k0 + 3 * i : Nat) : Int), ((k0 + 3 * i + 1 : Nat) : Int), ((k0 + 3 * i + 2 : Nat) : Int))
section
variable {H : Type} {enc : TypeId × Value → H} {w : World} {base : Nat} {spare : Nat → Bool} {held : Bool}
end
/-- What is left behind a slice's size. -/
def LeftRay (L : Int) (n : Nat) (r : Int) : Prop := r = -1 ∨ (0 ≤ r ∧ r ≤ L ∧ (n : Int) ≤ L)
end Go.Proofs.Ytigndpajpofofaa
