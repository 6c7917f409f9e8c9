/- Slices of Place: copies, comparisons, sizes, marks. -/
import Derived.Test.YtigndpajpofofaaRows
import Derived.Test.YtigndpajpofofaaGo
namespace Go.Proofs.Ytigndpajpofofaa
open Go Go.ChangeShapes Go.WideShapes Go.ChangeAt Go.RowKit Go.Deep
set_option linter.unusedSimpArgs false
set_option linter.unusedVariables false
set_option linter.unnecessarySimpa false

abbrev VPlace := Int × Int
def encPlace : Enc VPlace := ⟨2, fun x => [.int .i64 x.1, .int .i64 x.2], fun _ => rfl, by intro x u hu; simp at hu; rcases hu with rfl | rfl <;> rfl, by omega⟩
theorem rowPlace {w : World} {A : Option Addr} {xs : List VPlace} (h : SRow encPlace w A xs) {i : Nat} (hi : i < xs.length) : ∃ b off : Nat, A = some ⟨b, off, none⟩ ∧ b < w.heap.size ∧ w.cell? ⟨b, off + i * 2, none⟩ = some (.int .i64 xs[i].1) ∧ w.cell? ⟨b, off + i * 2 + 1, none⟩ = some (.int .i64 xs[i].2) := by
  obtain ⟨b, off, e, hb, hc⟩ := h.at_ hi
  exact ⟨b, off, e, hb, by have := hc 0 _ rfl; simpa [encPlace, Nat.add_assoc] using this, by have := hc 1 _ rfl; simpa [encPlace, Nat.add_assoc] using this⟩
theorem blkPlace {w : World} {g : Nat} {T : TypeId} {xs : List VPlace} (h : SBlk encPlace w g T xs) {i : Nat} (hi : i < xs.length) : w.cell? ⟨g, i * 2, none⟩ = some (.int .i64 xs[i].1) ∧ w.cell? ⟨g, i * 2 + 1, none⟩ = some (.int .i64 xs[i].2) :=
  ⟨by have := h.cell i hi 0 _ rfl; simpa [encPlace] using this, by have := h.cell i hi 1 _ rfl; simpa [encPlace] using this⟩
theorem ownPlace {w : World} {base g cap : Nat} {T : TypeId} {xs : List VPlace} (h : SOwn encPlace w base T (some ⟨g, 0, none⟩) cap xs) {i : Nat} (hi : i < xs.length) : w.cell? ⟨g, i * 2, none⟩ = some (.int .i64 xs[i].1) ∧ w.cell? ⟨g, i * 2 + 1, none⟩ = some (.int .i64 xs[i].2) :=
  ⟨by have := h.cell i hi 0 _ rfl; simpa [encPlace] using this, by have := h.cell i hi 1 _ rfl; simpa [encPlace] using this⟩
theorem toPlace_any (x0 : Int) (x1 : Int) (w : World) : Calls Try.prog 27 #[.agg #[.int .i64 x0, .int .i64 x1]] w fun e w' => e = .returned (.agg #[.int .i64 x0, .int .i64 x1]) ∧ Below w.heap.size w w' := by
  go_enter Try.func27, Try.ntmps27
  go_wp2
  exact bodyPost_ret (v := .agg #[.int .i64 x0, .int .i64 x1]) (by simp [results, Try.results27, go_sem]) rfl ⟨rfl, by
    repeat (first | exact Below.refl _ _ | refine Below.setCell ?_ (by simp <;> omega) _ | refine Below.alloc ?_ (by simp <;> omega) _)⟩
theorem infoPlace : (Try.prog.info? 36).map (fun i => (i.zero, i.size, i.bytes)) = some (some (.agg #[.int .i64 0, .int .i64 0]), 2, 16) := by kernel_rfl
def CopyPlace (xs : List VPlace) (w : World) (e : Ending) (w' : World) : Prop := ∃ g : Nat, e = .returned (.slice (some ⟨g, 0, none⟩) xs.length xs.length) ∧ w.heap.size ≤ g ∧ SBlk encPlace w' g 36 xs ∧ Below w.heap.size w w'
theorem eqPlace_same (x0 : Int) (x1 : Int) (w : World) : Calls Try.prog 39 #[.agg #[.int .i64 x0, .int .i64 x1], .agg #[.int .i64 x0, .int .i64 x1]] w fun e w' => e = .returned (.bool true) ∧ Below w.heap.size w w' := by
  go_enter Try.func39, Try.ntmps39
  go_wp2
  go_ret
  exact ⟨rfl, (bel1 _ _).alloc (by simp) _⟩
def mkPlace (k0 : Nat) (i : Nat) : VPlace := (((k0 + 2 * i : Nat) : Int), ((k0 + 2 * i + 1 : Nat) : Int))
section
variable {H : Type} {enc : TypeId × Value → H} {w : World} {base : Nat} {spare : Nat → Bool} {held : Bool}
set_option maxRecDepth 100000 in
theorem decPlace (fuel : Nat) (cs : List Value) (x : DataW H × List MemPlace) (h : DataW.trod enc Try.prog w base spare held fuel 24 cs = some x) : ∃ v : VPlace, cs = encPlace.enc v ∧ Wf v.1 ∧ Wf v.2 := by
  obtain ⟨zs, hz, rfl, hw⟩ := int_cells Try.underlying24 (by kernel_rfl) (by kernel_rfl) (by kernel_rfl) h
  match zs, hz with
  | [z0, z1], _ => exact ⟨(z0, z1), rfl, hw _ (by simp), hw _ (by simp)⟩
set_option maxRecDepth 100000 in
theorem openPlace {r : Reach} {b0 : Nat} {v : Value} {d : DataW H} {p : List MemPlace} (hv : Value.okWide Try.prog w r b0 24 v) (h : DataW.Trod enc Try.prog w base spare held 24 v d p) : ∃ x : VPlace, v = .agg (encPlace.enc x).toArray ∧ (fun v => Wf v.1 ∧ Wf v.2) x :=
  open_struct encPlace (fun v => Wf v.1 ∧ Wf v.2) Try.underlying24 decPlace hv h
end
/-- What is left behind a slice's size. -/
def LeftPlace (L : Int) (n : Nat) (r : Int) : Prop := r = -1 ∨ (0 ≤ r ∧ r ≤ L ∧ (n : Int) ≤ L)
end Go.Proofs.Ytigndpajpofofaa
