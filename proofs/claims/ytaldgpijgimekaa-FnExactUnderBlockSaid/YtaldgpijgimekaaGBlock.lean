/- Slices of Block: copies, comparisons, sizes, marks. -/
import Derived.Test.YtaldgpijgimekaaRows
import Derived.Test.YtaldgpijgimekaaGo
namespace Go.Proofs.Ytaldgpijgimekaa
open Go Go.ChangeShapes Go.WideShapes Go.ChangeAt Go.RowKit Go.Deep
set_option linter.unusedSimpArgs false
set_option linter.unusedVariables false
set_option linter.unnecessarySimpa false

abbrev VBlock := Int × Int × Int × Int × Int
def encBlock : Enc VBlock := ⟨5, fun x => [.int .i64 x.1, .int .i64 x.2.1, .int .i64 x.2.2.1, .int .i64 x.2.2.2.1, .int .i64 x.2.2.2.2], fun _ => rfl, by intro x u hu; simp at hu; rcases hu with rfl | rfl | rfl | rfl | rfl <;> rfl, by omega⟩
theorem rowBlock {w : World} {A : Option Addr} {xs : List VBlock} (h : SRow encBlock w A xs) {i : Nat} (hi : i < xs.length) : ∃ b off : Nat, A = some ⟨b, off, none⟩ ∧ b < w.heap.size ∧ w.cell? ⟨b, off + i * 5, none⟩ = some (.int .i64 xs[i].1) ∧ w.cell? ⟨b, off + i * 5 + 1, none⟩ = some (.int .i64 xs[i].2.1) ∧ w.cell? ⟨b, off + i * 5 + 2, none⟩ = some (.int .i64 xs[i].2.2.1) ∧ w.cell? ⟨b, off + i * 5 + 3, none⟩ = some (.int .i64 xs[i].2.2.2.1) ∧ w.cell? ⟨b, off + i * 5 + 4, none⟩ = some (.int .i64 xs[i].2.2.2.2) := by
  obtain ⟨b, off, e, hb, hc⟩ := h.at_ hi
  exact ⟨b, off, e, hb, by have := hc 0 _ rfl; simpa [encBlock, Nat.add_assoc] using this, by have := hc 1 _ rfl; simpa [encBlock, Nat.add_assoc] using this, by have := hc 2 _ rfl; simpa [encBlock, Nat.add_assoc] using this, by have := hc 3 _ rfl; simpa [encBlock, Nat.add_assoc] using this, by have := hc 4 _ rfl; simpa [encBlock, Nat.add_assoc] using this⟩
theorem blkBlock {w : World} {g : Nat} {T : TypeId} {xs : List VBlock} (h : SBlk encBlock w g T xs) {i : Nat} (hi : i < xs.length) : w.cell? ⟨g, i * 5, none⟩ = some (.int .i64 xs[i].1) ∧ w.cell? ⟨g, i * 5 + 1, none⟩ = some (.int .i64 xs[i].2.1) ∧ w.cell? ⟨g, i * 5 + 2, none⟩ = some (.int .i64 xs[i].2.2.1) ∧ w.cell? ⟨g, i * 5 + 3, none⟩ = some (.int .i64 xs[i].2.2.2.1) ∧ w.cell? ⟨g, i * 5 + 4, none⟩ = some (.int .i64 xs[i].2.2.2.2) :=
  ⟨by have := h.cell i hi 0 _ rfl; simpa [encBlock] using this, by have := h.cell i hi 1 _ rfl; simpa [encBlock] using this, by have := h.cell i hi 2 _ rfl; simpa [encBlock] using this, by have := h.cell i hi 3 _ rfl; simpa [encBlock] using this, by have := h.cell i hi 4 _ rfl; simpa [encBlock] using this⟩
theorem ownBlock {w : World} {base g cap : Nat} {T : TypeId} {xs : List VBlock} (h : SOwn encBlock w base T (some ⟨g, 0, none⟩) cap xs) {i : Nat} (hi : i < xs.length) : w.cell? ⟨g, i * 5, none⟩ = some (.int .i64 xs[i].1) ∧ w.cell? ⟨g, i * 5 + 1, none⟩ = some (.int .i64 xs[i].2.1) ∧ w.cell? ⟨g, i * 5 + 2, none⟩ = some (.int .i64 xs[i].2.2.1) ∧ w.cell? ⟨g, i * 5 + 3, none⟩ = some (.int .i64 xs[i].2.2.2.1) ∧ w.cell? ⟨g, i * 5 + 4, none⟩ = some (.int .i64 xs[i].2.2.2.2) :=
  ⟨by have := h.cell i hi 0 _ rfl; simpa [encBlock] using this, by have := h.cell i hi 1 _ rfl; simpa [encBlock] using this, by have := h.cell i hi 2 _ rfl; simpa [encBlock] using this, by have := h.cell i hi 3 _ rfl; simpa [encBlock] using this, by have := h.cell i hi 4 _ rfl; simpa [encBlock] using this⟩
theorem toBlock_any (x0 : Int) (x1 : Int) (x2 : Int) (x3 : Int) (x4 : Int) (w : World) : Calls Try.prog 16 #[.agg #[.int .i64 x0, .int .i64 x1, .int .i64 x2, .int .i64 x3, .int .i64 x4]] w fun e w' => e = .returned (.agg #[.int .i64 x0, .int .i64 x1, .int .i64 x2, .int .i64 x3, .int .i64 x4]) ∧ Below w.heap.size w w' := by
  go_enter Try.func16, Try.ntmps16
  go_wp2
  exact bodyPost_ret (v := .agg #[.int .i64 x0, .int .i64 x1, .int .i64 x2, .int .i64 x3, .int .i64 x4]) (by simp [results, Try.results16, go_sem]) rfl ⟨rfl, by
    repeat (first | exact Below.refl _ _ | refine Below.setCell ?_ (by simp <;> omega) _ | refine Below.alloc ?_ (by simp <;> omega) _)⟩
theorem infoBlock : (Try.prog.info? 31).map (fun i => (i.zero, i.size, i.bytes)) = some (some (.agg #[.int .i64 0, .int .i64 0, .int .i64 0, .int .i64 0, .int .i64 0]), 5, 40) := by kernel_rfl
def CopyBlock (xs : List VBlock) (w : World) (e : Ending) (w' : World) : Prop := ∃ g : Nat, e = .returned (.slice (some ⟨g, 0, none⟩) xs.length xs.length) ∧ w.heap.size ≤ g ∧ SBlk encBlock w' g 31 xs ∧ Below w.heap.size w w'
theorem eqBlock_same (x0 : Int) (x1 : Int) (x2 : Int) (x3 : Int) (x4 : Int) (w : World) : Calls Try.prog 37 #[.agg #[.int .i64 x0, .int .i64 x1, .int .i64 x2, .int .i64 x3, .int .i64 x4], .agg #[.int .i64 x0, .int .i64 x1, .int .i64 x2, .int .i64 x3, .int .i64 x4]] w fun e w' => e = .returned (.bool true) ∧ Below w.heap.size w w' := by
  go_enter Try.func37, Try.ntmps37
  go_wp2
  go_ret
  exact ⟨rfl, (bel1 _ _).alloc (by simp) _⟩
def mkBlock (k0 : Nat) (i : Nat) : VBlock := (((k0 + 5 * i : Nat) : Int), ((k0 + 5 * i + 1 : Nat) : Int), ((k0 + 5 * i + 2 : Nat) : Int), ((k0 + 5 * i + 3 : Nat) : Int), ((k0 + 5 * i + 4 : Nat) : Int))
section
variable {H : Type} {enc : TypeId × Value → H} {w : World} {base : Nat} {spare : Nat → Bool} {held : Bool}
theorem decBlock (fuel : Nat) (cs : List Value) (x : DataW H × List MemPlace) (h : DataW.trod enc Try.prog w base spare held fuel 29 cs = some x) : ∃ v : VBlock, cs = encBlock.enc v ∧ Wf v.1 ∧ Wf v.2.1 ∧ Wf v.2.2.1 ∧ Wf v.2.2.2.1 ∧ Wf v.2.2.2.2 := by
  obtain ⟨zs, hz, rfl, hw⟩ := int_cells Try.underlying29 (by kernel_rfl) (by kernel_rfl) (by kernel_rfl) h
  match zs, hz with
  | [z0, z1, z2, z3, z4], _ => exact ⟨(z0, z1, z2, z3, z4), rfl, hw _ (by simp), hw _ (by simp), hw _ (by simp), hw _ (by simp), hw _ (by simp)⟩
theorem openBlock {r : Reach} {b0 : Nat} {v : Value} {d : DataW H} {p : List MemPlace} (hv : Value.okWide Try.prog w r b0 29 v) (h : DataW.Trod enc Try.prog w base spare held 29 v d p) : ∃ x : VBlock, v = .agg (encBlock.enc x).toArray ∧ (fun v => Wf v.1 ∧ Wf v.2.1 ∧ Wf v.2.2.1 ∧ Wf v.2.2.2.1 ∧ Wf v.2.2.2.2) x :=
  open_struct encBlock (fun v => Wf v.1 ∧ Wf v.2.1 ∧ Wf v.2.2.1 ∧ Wf v.2.2.2.1 ∧ Wf v.2.2.2.2) Try.underlying29 decBlock hv h
end
/-- What is left behind a slice's size. -/
def LeftBlock (L : Int) (n : Nat) (r : Int) : Prop := r = -1 ∨ (0 ≤ r ∧ r ≤ L ∧ (n : Int) ≤ L)
end Go.Proofs.Ytaldgpijgimekaa
