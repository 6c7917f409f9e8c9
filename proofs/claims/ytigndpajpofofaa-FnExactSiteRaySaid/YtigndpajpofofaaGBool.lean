/- Slices of bools: copies, comparisons, sizes, marks. -/
import Derived.Test.YtigndpajpofofaaRows
import Derived.Test.YtigndpajpofofaaGo
namespace Go.Proofs.Ytigndpajpofofaa
open Go Go.ChangeShapes Go.WideShapes Go.ChangeAt Go.RowKit Go.Deep
set_option linter.unusedSimpArgs false
set_option linter.unusedVariables false
set_option linter.unnecessarySimpa false

def encBool : Enc Bool := ⟨1, fun x => [.bool x], fun _ => rfl, by intro x u hu; simp at hu; subst hu; rfl, by omega⟩
theorem rowBool {w : World} {A : Option Addr} {xs : List Bool} (h : SRow encBool w A xs) {i : Nat} (hi : i < xs.length) : ∃ b off : Nat, A = some ⟨b, off, none⟩ ∧ b < w.heap.size ∧ w.cell? ⟨b, off + i, none⟩ = some (.bool xs[i]) := by
  obtain ⟨b, off, e, hb, hc⟩ := h.at_ hi
  exact ⟨b, off, e, hb, by have := hc 0 _ rfl; simpa [encBool, Nat.add_assoc] using this⟩
theorem blkBool {w : World} {g : Nat} {T : TypeId} {xs : List Bool} (h : SBlk encBool w g T xs) {i : Nat} (hi : i < xs.length) : w.cell? ⟨g, i, none⟩ = some (.bool xs[i]) := by have := h.cell i hi 0 _ rfl; simpa [encBool] using this
theorem ownBool {w : World} {base g cap : Nat} {T : TypeId} {xs : List Bool} (h : SOwn encBool w base T (some ⟨g, 0, none⟩) cap xs) {i : Nat} (hi : i < xs.length) : w.cell? ⟨g, i, none⟩ = some (.bool xs[i]) := by have := h.cell i hi 0 _ rfl; simpa [encBool] using this
theorem setBoolB {w : World} {g : Nat} {T : TypeId} {xs : List Bool} (h : SBlk encBool w g T xs) (i : Nat) (hi : i < xs.length) (x : Bool) : SBlk encBool (w.setCell ⟨g, i, none⟩ (.bool x)) g T (xs.set i x) := by
  have := h.set i hi x; simpa [encBool, setAll] using this
theorem setBoolO {w : World} {base g cap : Nat} {T : TypeId} {xs : List Bool} (h : SOwn encBool w base T (some ⟨g, 0, none⟩) cap xs) (i : Nat) (hi : i < xs.length) (x : Bool) : SOwn encBool (w.setCell ⟨g, i, none⟩ (.bool x)) base T (some ⟨g, 0, none⟩) cap (xs.set i x) := by
  have := h.set i hi x; simpa [encBool, setAll] using this
theorem infoBool : (Try.prog.info? 4).map (fun i => (i.zero, i.size, i.bytes)) = some (some (.bool false), 1, 1) := by kernel_rfl
def CopyBool (xs : List Bool) (w : World) (e : Ending) (w' : World) : Prop := ∃ g : Nat, e = .returned (.slice (some ⟨g, 0, none⟩) xs.length xs.length) ∧ w.heap.size ≤ g ∧ SBlk encBool w' g 4 xs ∧ Below w.heap.size w w'
theorem setBoolG {w w' : World} {g i : Nat} (h : w.grownBy w' (some g)) (v : Value) : w.grownBy (w'.setCell ⟨g, i, none⟩ v) (some g) := grown_cellS h v
def mkBool (k0 : Nat) (i : Nat) : Bool := (((k0 : Int) + (i : Int)) % 3 == 0)
section
variable {H : Type} {enc : TypeId × Value → H} {w : World} {base : Nat} {spare : Nat → Bool} {held : Bool}
theorem decBool (fuel : Nat) (cs : List Value) (x : DataW H × List MemPlace) (h : DataW.trod enc Try.prog w base spare held fuel 4 cs = some x) : ∃ v : Bool, cs = encBool.enc v ∧ True := by
  obtain ⟨a, ha, _⟩ := DataW.trod_bool Try.underlying4 h
  exact ⟨a, ha, trivial⟩
end
end Go.Proofs.Ytigndpajpofofaa
