/- Slices of Ray: copies, comparisons, sizes, marks. -/
import Derived.Test.YtaldgpijgimekaaRows
import Derived.Test.YtaldgpijgimekaaGo
namespace Go.Proofs.Ytaldgpijgimekaa
open Go Go.ChangeShapes Go.WideShapes Go.ChangeAt Go.RowKit Go.Deep
set_option linter.unusedSimpArgs false
set_option linter.unusedVariables false
set_option linter.unnecessarySimpa false

abbrev VRay := Int × Int × Int
def encRay : Enc VRay := ⟨3, fun x => [.int .i64 x.1, .int .i64 x.2.1, .int .i64 x.2.2], fun _ => rfl, by intro x u hu; simp at hu; rcases hu with rfl | rfl | rfl <;> rfl, by omega⟩
theorem rowRay {w : World} {A : Option Addr} {xs : List VRay} (h : SRow encRay w A xs) {i : Nat} (hi : i < xs.length) : ∃ b off : Nat, A = some ⟨b, off, none⟩ ∧ b < w.heap.size ∧ w.cell? ⟨b, off + i * 3, none⟩ = some (.int .i64 xs[i].1) ∧ w.cell? ⟨b, off + i * 3 + 1, none⟩ = some (.int .i64 xs[i].2.1) ∧ w.cell? ⟨b, off + i * 3 + 2, none⟩ = some (.int .i64 xs[i].2.2) := by
  obtain ⟨b, off, e, hb, hc⟩ := h.at_ hi
  exact ⟨b, off, e, hb, by have := hc 0 _ rfl; simpa [encRay, Nat.add_assoc] using this, by have := hc 1 _ rfl; simpa [encRay, Nat.add_assoc] using this, by have := hc 2 _ rfl; simpa [encRay, Nat.add_assoc] using this⟩
theorem blkRay {w : World} {g : Nat} {T : TypeId} {xs : List VRay} (h : SBlk encRay w g T xs) {i : Nat} (hi : i < xs.length) : w.cell? ⟨g, i * 3, none⟩ = some (.int .i64 xs[i].1) ∧ w.cell? ⟨g, i * 3 + 1, none⟩ = some (.int .i64 xs[i].2.1) ∧ w.cell? ⟨g, i * 3 + 2, none⟩ = some (.int .i64 xs[i].2.2) :=
  ⟨by have := h.cell i hi 0 _ rfl; simpa [encRay] using this, by have := h.cell i hi 1 _ rfl; simpa [encRay] using this, by have := h.cell i hi 2 _ rfl; simpa [encRay] using this⟩
theorem ownRay {w : World} {base g cap : Nat} {T : TypeId} {xs : List VRay} (h : SOwn encRay w base T (some ⟨g, 0, none⟩) cap xs) {i : Nat} (hi : i < xs.length) : w.cell? ⟨g, i * 3, none⟩ = some (.int .i64 xs[i].1) ∧ w.cell? ⟨g, i * 3 + 1, none⟩ = some (.int .i64 xs[i].2.1) ∧ w.cell? ⟨g, i * 3 + 2, none⟩ = some (.int .i64 xs[i].2.2) :=
  ⟨by have := h.cell i hi 0 _ rfl; simpa [encRay] using this, by have := h.cell i hi 1 _ rfl; simpa [encRay] using this, by have := h.cell i hi 2 _ rfl; simpa [encRay] using this⟩
theorem toRay_any (x0 : Int) (x1 : Int) (x2 : Int) (w : World) : Calls Try.prog 19 #[.agg #[.int .i64 x0, .int .i64 x1, .int .i64 x2]] w fun e w' => e = .returned (.agg #[.int .i64 x0, .int .i64 x1, .int .i64 x2]) ∧ Below w.heap.size w w' := by
  go_enter Try.func19, Try.ntmps19
  go_wp2
  exact bodyPost_ret (v := .agg #[.int .i64 x0, .int .i64 x1, .int .i64 x2]) (by simp [results, Try.results19, go_sem]) rfl ⟨rfl, by
    repeat (first | exact Below.refl _ _ | refine Below.setCell ?_ (by simp <;> omega) _ | refine Below.alloc ?_ (by simp <;> omega) _)⟩
theorem infoRay : (Try.prog.info? 37).map (fun i => (i.zero, i.size, i.bytes)) = some (some (.agg #[.int .i64 0, .int .i64 0, .int .i64 0]), 3, 24) := by kernel_rfl
def CopyRay (xs : List VRay) (w : World) (e : Ending) (w' : World) : Prop := ∃ g : Nat, e = .returned (.slice (some ⟨g, 0, none⟩) xs.length xs.length) ∧ w.heap.size ≤ g ∧ SBlk encRay w' g 37 xs ∧ Below w.heap.size w w'
theorem eqRay_same (x0 : Int) (x1 : Int) (x2 : Int) (w : World) : Calls Try.prog 31 #[.agg #[.int .i64 x0, .int .i64 x1, .int .i64 x2], .agg #[.int .i64 x0, .int .i64 x1, .int .i64 x2]] w fun e w' => e = .returned (.bool true) ∧ Below w.heap.size w w' := by
  go_enter Try.func31, Try.ntmps31
  go_wp2
  go_ret
  exact ⟨rfl, (bel1 _ _).alloc (by simp) _⟩
def mkRay (k0 : Nat) (i : Nat) : VRay := (((k0 + 3 * i : Nat) : Int), ((k0 + 3 * i + 1 : Nat) : Int), ((k0 + 3 * i + 2 : Nat) : Int))
section
variable {H : Type} {enc : TypeId × Value → H} {w : World} {base : Nat} {spare : Nat → Bool} {held : Bool}
theorem decRay (fuel : Nat) (cs : List Value) (x : DataW H × List MemPlace) (h : DataW.trod enc Try.prog w base spare held fuel 35 cs = some x) : ∃ v : VRay, cs = encRay.enc v ∧ Wf v.1 ∧ Wf v.2.1 ∧ Wf v.2.2 := by
  obtain ⟨zs, hz, rfl, hw⟩ := int_cells Try.underlying35 (by kernel_rfl) (by kernel_rfl) (by kernel_rfl) h
  match zs, hz with
  | [z0, z1, z2], _ => exact ⟨(z0, z1, z2), rfl, hw _ (by simp), hw _ (by simp), hw _ (by simp)⟩
theorem openRay {r : Reach} {b0 : Nat} {v : Value} {d : DataW H} {p : List MemPlace} (hv : Value.okWide Try.prog w r b0 35 v) (h : DataW.Trod enc Try.prog w base spare held 35 v d p) : ∃ x : VRay, v = .agg (encRay.enc x).toArray ∧ (fun v => Wf v.1 ∧ Wf v.2.1 ∧ Wf v.2.2) x :=
  open_struct encRay (fun v => Wf v.1 ∧ Wf v.2.1 ∧ Wf v.2.2) Try.underlying35 decRay hv h
end
/-- What is left behind a slice's size. -/
def LeftRay (L : Int) (n : Nat) (r : Int) : Prop := r = -1 ∨ (0 ≤ r ∧ r ≤ L ∧ (n : Int) ≤ L)
end Go.Proofs.Ytaldgpijgimekaa
