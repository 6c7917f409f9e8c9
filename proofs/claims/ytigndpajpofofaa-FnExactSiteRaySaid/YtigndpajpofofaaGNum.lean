/- Slices of numbers: copies, comparisons, sizes, marks. -/
import Derived.Test.YtigndpajpofofaaRows
import Derived.Test.YtigndpajpofofaaGo
namespace Go.Proofs.Ytigndpajpofofaa
open Go Go.ChangeShapes Go.WideShapes Go.ChangeAt Go.RowKit Go.Deep
set_option linter.unusedSimpArgs false
set_option linter.unusedVariables false
set_option linter.unnecessarySimpa false

def encNum : Enc Int := ⟨1, fun x => [.int .i64 x], fun _ => rfl, by intro x u hu; simp at hu; subst hu; rfl, by omega⟩
theorem rowNum {w : World} {A : Option Addr} {xs : List Int} (h : SRow encNum w A xs) {i : Nat} (hi : i < xs.length) : ∃ b off : Nat, A = some ⟨b, off, none⟩ ∧ b < w.heap.size ∧ w.cell? ⟨b, off + i, none⟩ = some (.int .i64 xs[i]) := by
  obtain ⟨b, off, e, hb, hc⟩ := h.at_ hi
  exact ⟨b, off, e, hb, by have := hc 0 _ rfl; simpa [encNum, Nat.add_assoc] using this⟩
theorem blkNum {w : World} {g : Nat} {T : TypeId} {xs : List Int} (h : SBlk encNum w g T xs) {i : Nat} (hi : i < xs.length) : w.cell? ⟨g, i, none⟩ = some (.int .i64 xs[i]) := by have := h.cell i hi 0 _ rfl; simpa [encNum] using this
theorem ownNum {w : World} {base g cap : Nat} {T : TypeId} {xs : List Int} (h : SOwn encNum w base T (some ⟨g, 0, none⟩) cap xs) {i : Nat} (hi : i < xs.length) : w.cell? ⟨g, i, none⟩ = some (.int .i64 xs[i]) := by have := h.cell i hi 0 _ rfl; simpa [encNum] using this
theorem setNumB {w : World} {g : Nat} {T : TypeId} {xs : List Int} (h : SBlk encNum w g T xs) (i : Nat) (hi : i < xs.length) (x : Int) : SBlk encNum (w.setCell ⟨g, i, none⟩ (.int .i64 x)) g T (xs.set i x) := by
  have := h.set i hi x; simpa [encNum, setAll] using this
theorem setNumO {w : World} {base g cap : Nat} {T : TypeId} {xs : List Int} (h : SOwn encNum w base T (some ⟨g, 0, none⟩) cap xs) (i : Nat) (hi : i < xs.length) (x : Int) : SOwn encNum (w.setCell ⟨g, i, none⟩ (.int .i64 x)) base T (some ⟨g, 0, none⟩) cap (xs.set i x) := by
  have := h.set i hi x; simpa [encNum, setAll] using this
theorem infoNum : (Try.prog.info? 3).map (fun i => (i.zero, i.size, i.bytes)) = some (some (.int .i64 0), 1, 8) := by kernel_rfl
def CopyNum (xs : List Int) (w : World) (e : Ending) (w' : World) : Prop := ∃ g : Nat, e = .returned (.slice (some ⟨g, 0, none⟩) xs.length xs.length) ∧ w.heap.size ≤ g ∧ SBlk encNum w' g 3 xs ∧ Below w.heap.size w w'
theorem setNumG {w w' : World} {g i : Nat} (h : w.grownBy w' (some g)) (v : Value) : w.grownBy (w'.setCell ⟨g, i, none⟩ v) (some g) := grown_cellS h v
def mkNum (k0 : Nat) (i : Nat) : Int := ((k0 + i : Nat) : Int)
section
variable {H : Type} {enc : TypeId × Value → H} {w : World} {base : Nat} {spare : Nat → Bool} {held : Bool}
theorem decNum (fuel : Nat) (cs : List Value) (x : DataW H × List MemPlace) (h : DataW.trod enc Try.prog w base spare held fuel 3 cs = some x) : ∃ v : Int, cs = encNum.enc v ∧ Wf v := by
  obtain ⟨a, ha, _, hw⟩ := DataW.trod_int Try.underlying3 h
  exact ⟨a, ha, hw⟩
theorem openNumS {fuel : Nat} {cs : List Value} {x : DataW H × List MemPlace} (h : DataW.trod enc Try.prog w base spare held fuel 96 cs = some x) :
    ∃ (A : Option Addr) (cap : Nat) (xs : List Int), cs = [.slice A xs.length cap] ∧ xs.length ≤ maxLen ∧ SRow encNum w A xs ∧ ∀ v ∈ xs, (fun v => Wf v) v :=
  open_structs encNum (0 : Int) (fun v => Wf v) Try.underlying96 (by kernel_rfl) decNum h
end
/-- What is left behind a slice's size. -/
def LeftNum (L : Int) (n : Nat) (r : Int) : Prop := r = -1 ∨ (0 ≤ r ∧ r ≤ L ∧ (n : Int) ≤ L)
end Go.Proofs.Ytigndpajpofofaa
