/- Slices of Band: copies, comparisons, sizes, marks. -/
import Derived.Test.YtigndpajpofofaaRows
import Derived.Test.YtigndpajpofofaaGo
namespace Go.Proofs.Ytigndpajpofofaa
open Go Go.ChangeShapes Go.WideShapes Go.ChangeAt Go.RowKit Go.Deep
set_option linter.unusedSimpArgs false
set_option linter.unusedVariables false
set_option linter.unnecessarySimpa false

abbrev VBand := Int × Int
def encBand : Enc VBand := ⟨2, fun x => [.int .i64 x.1, .int .i64 x.2], fun _ => rfl, by intro x u hu; simp at hu; rcases hu with rfl | rfl <;> rfl, by omega⟩
theorem rowBand {w : World} {A : Option Addr} {xs : List VBand} (h : SRow encBand w A xs) {i : Nat} (hi : i < xs.length) : ∃ b off : Nat, A = some ⟨b, off, none⟩ ∧ b < w.heap.size ∧ w.cell? ⟨b, off + i * 2, none⟩ = some (.int .i64 xs[i].1) ∧ w.cell? ⟨b, off + i * 2 + 1, none⟩ = some (.int .i64 xs[i].2) := by
  obtain ⟨b, off, e, hb, hc⟩ := h.at_ hi
  exact ⟨b, off, e, hb, by have := hc 0 _ rfl; simpa [encBand, Nat.add_assoc] using this, by have := hc 1 _ rfl; simpa [encBand, Nat.add_assoc] using this⟩
theorem blkBand {w : World} {g : Nat} {T : TypeId} {xs : List VBand} (h : SBlk encBand w g T xs) {i : Nat} (hi : i < xs.length) : w.cell? ⟨g, i * 2, none⟩ = some (.int .i64 xs[i].1) ∧ w.cell? ⟨g, i * 2 + 1, none⟩ = some (.int .i64 xs[i].2) :=
  ⟨by have := h.cell i hi 0 _ rfl; simpa [encBand] using this, by have := h.cell i hi 1 _ rfl; simpa [encBand] using this⟩
theorem ownBand {w : World} {base g cap : Nat} {T : TypeId} {xs : List VBand} (h : SOwn encBand w base T (some ⟨g, 0, none⟩) cap xs) {i : Nat} (hi : i < xs.length) : w.cell? ⟨g, i * 2, none⟩ = some (.int .i64 xs[i].1) ∧ w.cell? ⟨g, i * 2 + 1, none⟩ = some (.int .i64 xs[i].2) :=
  ⟨by have := h.cell i hi 0 _ rfl; simpa [encBand] using this, by have := h.cell i hi 1 _ rfl; simpa [encBand] using this⟩
theorem toBand_any (x0 : Int) (x1 : Int) (w : World) : Calls Try.prog 29 #[.agg #[.int .i64 x0, .int .i64 x1]] w fun e w' => e = .returned (.agg #[.int .i64 x0, .int .i64 x1]) ∧ Below w.heap.size w w' := by
  go_enter Try.func29, Try.ntmps29
  go_wp2
  exact bodyPost_ret (v := .agg #[.int .i64 x0, .int .i64 x1]) (by simp [results, Try.results29, go_sem]) rfl ⟨rfl, by
    repeat (first | exact Below.refl _ _ | refine Below.setCell ?_ (by simp <;> omega) _ | refine Below.alloc ?_ (by simp <;> omega) _)⟩
theorem infoBand : (Try.prog.info? 38).map (fun i => (i.zero, i.size, i.bytes)) = some (some (.agg #[.int .i64 0, .int .i64 0]), 2, 16) := by kernel_rfl
def CopyBand (xs : List VBand) (w : World) (e : Ending) (w' : World) : Prop := ∃ g : Nat, e = .returned (.slice (some ⟨g, 0, none⟩) xs.length xs.length) ∧ w.heap.size ≤ g ∧ SBlk encBand w' g 38 xs ∧ Below w.heap.size w w'
theorem eqBand_same (x0 : Int) (x1 : Int) (w : World) : Calls Try.prog 41 #[.agg #[.int .i64 x0, .int .i64 x1], .agg #[.int .i64 x0, .int .i64 x1]] w fun e w' => e = .returned (.bool true) ∧ Below w.heap.size w w' := by
  go_enter Try.func41, Try.ntmps41
  go_wp2
  go_ret
  exact ⟨rfl, (bel1 _ _).alloc (by simp) _⟩
def mkBand (k0 : Nat) (i : Nat) : VBand := (((k0 + 2 * i : Nat) : Int), ((k0 + 2 * i + 1 : Nat) : Int))
section
variable {H : Type} {enc : TypeId × Value → H} {w : World} {base : Nat} {spare : Nat → Bool} {held : Bool}
set_option maxRecDepth 100000 in
theorem decBand (fuel : Nat) (cs : List Value) (x : DataW H × List MemPlace) (h : DataW.trod enc Try.prog w base spare held fuel 28 cs = some x) : ∃ v : VBand, cs = encBand.enc v ∧ Wf v.1 ∧ Wf v.2 := by
  obtain ⟨zs, hz, rfl, hw⟩ := int_cells Try.underlying28 (by kernel_rfl) (by kernel_rfl) (by kernel_rfl) h
  match zs, hz with
  | [z0, z1], _ => exact ⟨(z0, z1), rfl, hw _ (by simp), hw _ (by simp)⟩
set_option maxRecDepth 100000 in
theorem openBand {r : Reach} {b0 : Nat} {v : Value} {d : DataW H} {p : List MemPlace} (hv : Value.okWide Try.prog w r b0 28 v) (h : DataW.Trod enc Try.prog w base spare held 28 v d p) : ∃ x : VBand, v = .agg (encBand.enc x).toArray ∧ (fun v => Wf v.1 ∧ Wf v.2) x :=
  open_struct encBand (fun v => Wf v.1 ∧ Wf v.2) Try.underlying28 decBand hv h
end
/-- What is left behind a slice's size. -/
def LeftBand (L : Int) (n : Nat) (r : Int) : Prop := r = -1 ∨ (0 ≤ r ∧ r ≤ L ∧ (n : Int) ≤ L)
end Go.Proofs.Ytigndpajpofofaa
