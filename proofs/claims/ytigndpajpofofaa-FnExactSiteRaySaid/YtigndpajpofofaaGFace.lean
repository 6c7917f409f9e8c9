/- Slices of Face: copies, comparisons, sizes, marks. -/
import Derived.Test.YtigndpajpofofaaRows
import Derived.Test.YtigndpajpofofaaGo
namespace Go.Proofs.Ytigndpajpofofaa
open Go Go.ChangeShapes Go.WideShapes Go.ChangeAt Go.RowKit Go.Deep
set_option linter.unusedSimpArgs false
set_option linter.unusedVariables false
set_option linter.unnecessarySimpa false

abbrev VFace := Int × Int × Int
def encFace : Enc VFace := ⟨3, fun x => [.int .i64 x.1, .int .i64 x.2.1, .int .i64 x.2.2], fun _ => rfl, by intro x u hu; simp at hu; rcases hu with rfl | rfl | rfl <;> rfl, by omega⟩
theorem rowFace {w : World} {A : Option Addr} {xs : List VFace} (h : SRow encFace w A xs) {i : Nat} (hi : i < xs.length) : ∃ b off : Nat, A = some ⟨b, off, none⟩ ∧ b < w.heap.size ∧ w.cell? ⟨b, off + i * 3, none⟩ = some (.int .i64 xs[i].1) ∧ w.cell? ⟨b, off + i * 3 + 1, none⟩ = some (.int .i64 xs[i].2.1) ∧ w.cell? ⟨b, off + i * 3 + 2, none⟩ = some (.int .i64 xs[i].2.2) := by
  obtain ⟨b, off, e, hb, hc⟩ := h.at_ hi
  exact ⟨b, off, e, hb, by have := hc 0 _ rfl; simpa [encFace, Nat.add_assoc] using this, by have := hc 1 _ rfl; simpa [encFace, Nat.add_assoc] using this, by have := hc 2 _ rfl; simpa [encFace, Nat.add_assoc] using this⟩
theorem blkFace {w : World} {g : Nat} {T : TypeId} {xs : List VFace} (h : SBlk encFace w g T xs) {i : Nat} (hi : i < xs.length) : w.cell? ⟨g, i * 3, none⟩ = some (.int .i64 xs[i].1) ∧ w.cell? ⟨g, i * 3 + 1, none⟩ = some (.int .i64 xs[i].2.1) ∧ w.cell? ⟨g, i * 3 + 2, none⟩ = some (.int .i64 xs[i].2.2) :=
  ⟨by have := h.cell i hi 0 _ rfl; simpa [encFace] using this, by have := h.cell i hi 1 _ rfl; simpa [encFace] using this, by have := h.cell i hi 2 _ rfl; simpa [encFace] using this⟩
theorem ownFace {w : World} {base g cap : Nat} {T : TypeId} {xs : List VFace} (h : SOwn encFace w base T (some ⟨g, 0, none⟩) cap xs) {i : Nat} (hi : i < xs.length) : w.cell? ⟨g, i * 3, none⟩ = some (.int .i64 xs[i].1) ∧ w.cell? ⟨g, i * 3 + 1, none⟩ = some (.int .i64 xs[i].2.1) ∧ w.cell? ⟨g, i * 3 + 2, none⟩ = some (.int .i64 xs[i].2.2) :=
  ⟨by have := h.cell i hi 0 _ rfl; simpa [encFace] using this, by have := h.cell i hi 1 _ rfl; simpa [encFace] using this, by have := h.cell i hi 2 _ rfl; simpa [encFace] using this⟩
theorem toFace_any (x0 : Int) (x1 : Int) (x2 : Int) (w : World) : Calls Try.prog 28 #[.agg #[.int .i64 x0, .int .i64 x1, .int .i64 x2]] w fun e w' => e = .returned (.agg #[.int .i64 x0, .int .i64 x1, .int .i64 x2]) ∧ Below w.heap.size w w' := by
  go_enter Try.func28, Try.ntmps28
  go_wp2
  exact bodyPost_ret (v := .agg #[.int .i64 x0, .int .i64 x1, .int .i64 x2]) (by simp [results, Try.results28, go_sem]) rfl ⟨rfl, by
    repeat (first | exact Below.refl _ _ | refine Below.setCell ?_ (by simp <;> omega) _ | refine Below.alloc ?_ (by simp <;> omega) _)⟩
theorem infoFace : (Try.prog.info? 37).map (fun i => (i.zero, i.size, i.bytes)) = some (some (.agg #[.int .i64 0, .int .i64 0, .int .i64 0]), 3, 24) := by kernel_rfl
def CopyFace (xs : List VFace) (w : World) (e : Ending) (w' : World) : Prop := ∃ g : Nat, e = .returned (.slice (some ⟨g, 0, none⟩) xs.length xs.length) ∧ w.heap.size ≤ g ∧ SBlk encFace w' g 37 xs ∧ Below w.heap.size w w'
theorem eqFace_same (x0 : Int) (x1 : Int) (x2 : Int) (w : World) : Calls Try.prog 40 #[.agg #[.int .i64 x0, .int .i64 x1, .int .i64 x2], .agg #[.int .i64 x0, .int .i64 x1, .int .i64 x2]] w fun e w' => e = .returned (.bool true) ∧ Below w.heap.size w w' := by
  go_enter Try.func40, Try.ntmps40
  go_wp2
  go_ret
  exact ⟨rfl, (bel1 _ _).alloc (by simp) _⟩
def mkFace (k0 : Nat) (i : Nat) : VFace := (((k0 + 3 * i : Nat) : Int), ((k0 + 3 * i + 1 : Nat) : Int), ((k0 + 3 * i + 2 : Nat) : Int))
section
variable {H : Type} {enc : TypeId × Value → H} {w : World} {base : Nat} {spare : Nat → Bool} {held : Bool}
set_option maxRecDepth 100000 in
theorem decFace (fuel : Nat) (cs : List Value) (x : DataW H × List MemPlace) (h : DataW.trod enc Try.prog w base spare held fuel 26 cs = some x) : ∃ v : VFace, cs = encFace.enc v ∧ Wf v.1 ∧ Wf v.2.1 ∧ Wf v.2.2 := by
  obtain ⟨zs, hz, rfl, hw⟩ := int_cells Try.underlying26 (by kernel_rfl) (by kernel_rfl) (by kernel_rfl) h
  match zs, hz with
  | [z0, z1, z2], _ => exact ⟨(z0, z1, z2), rfl, hw _ (by simp), hw _ (by simp), hw _ (by simp)⟩
set_option maxRecDepth 100000 in
theorem openFace {r : Reach} {b0 : Nat} {v : Value} {d : DataW H} {p : List MemPlace} (hv : Value.okWide Try.prog w r b0 26 v) (h : DataW.Trod enc Try.prog w base spare held 26 v d p) : ∃ x : VFace, v = .agg (encFace.enc x).toArray ∧ (fun v => Wf v.1 ∧ Wf v.2.1 ∧ Wf v.2.2) x :=
  open_struct encFace (fun v => Wf v.1 ∧ Wf v.2.1 ∧ Wf v.2.2) Try.underlying26 decFace hv h
end
/-- What is left behind a slice's size. -/
def LeftFace (L : Int) (n : Nat) (r : Int) : Prop := r = -1 ∨ (0 ≤ r ∧ r ≤ L ∧ (n : Int) ≤ L)
end Go.Proofs.Ytigndpajpofofaa
