/- Slices of Blind: copies, comparisons, sizes, marks. -/
import Derived.Test.YtigndpajpofofaaRows
import Derived.Test.YtigndpajpofofaaGo
namespace Go.Proofs.Ytigndpajpofofaa
open Go Go.ChangeShapes Go.WideShapes Go.ChangeAt Go.RowKit Go.Deep
set_option linter.unusedSimpArgs false
set_option linter.unusedVariables false
set_option linter.unnecessarySimpa false

abbrev VBlind := Bool × Int
def encBlind : Enc VBlind := ⟨2, fun x => [.bool x.1, .int .i64 x.2], fun _ => rfl, by intro x u hu; simp at hu; rcases hu with rfl | rfl <;> rfl, by omega⟩
theorem rowBlind {w : World} {A : Option Addr} {xs : List VBlind} (h : SRow encBlind w A xs) {i : Nat} (hi : i < xs.length) : ∃ b off : Nat, A = some ⟨b, off, none⟩ ∧ b < w.heap.size ∧ w.cell? ⟨b, off + i * 2, none⟩ = some (.bool xs[i].1) ∧ w.cell? ⟨b, off + i * 2 + 1, none⟩ = some (.int .i64 xs[i].2) := by
  obtain ⟨b, off, e, hb, hc⟩ := h.at_ hi
  exact ⟨b, off, e, hb, by have := hc 0 _ rfl; simpa [encBlind, Nat.add_assoc] using this, by have := hc 1 _ rfl; simpa [encBlind, Nat.add_assoc] using this⟩
theorem blkBlind {w : World} {g : Nat} {T : TypeId} {xs : List VBlind} (h : SBlk encBlind w g T xs) {i : Nat} (hi : i < xs.length) : w.cell? ⟨g, i * 2, none⟩ = some (.bool xs[i].1) ∧ w.cell? ⟨g, i * 2 + 1, none⟩ = some (.int .i64 xs[i].2) :=
  ⟨by have := h.cell i hi 0 _ rfl; simpa [encBlind] using this, by have := h.cell i hi 1 _ rfl; simpa [encBlind] using this⟩
theorem ownBlind {w : World} {base g cap : Nat} {T : TypeId} {xs : List VBlind} (h : SOwn encBlind w base T (some ⟨g, 0, none⟩) cap xs) {i : Nat} (hi : i < xs.length) : w.cell? ⟨g, i * 2, none⟩ = some (.bool xs[i].1) ∧ w.cell? ⟨g, i * 2 + 1, none⟩ = some (.int .i64 xs[i].2) :=
  ⟨by have := h.cell i hi 0 _ rfl; simpa [encBlind] using this, by have := h.cell i hi 1 _ rfl; simpa [encBlind] using this⟩
theorem toBlind_any (x0 : Bool) (x1 : Int) (w : World) : Calls Try.prog 30 #[.agg #[.bool x0, .int .i64 x1]] w fun e w' => e = .returned (.agg #[.bool x0, .int .i64 x1]) ∧ Below w.heap.size w w' := by
  go_enter Try.func30, Try.ntmps30
  go_wp2
  exact bodyPost_ret (v := .agg #[.bool x0, .int .i64 x1]) (by simp [results, Try.results30, go_sem]) rfl ⟨rfl, by
    repeat (first | exact Below.refl _ _ | refine Below.setCell ?_ (by simp <;> omega) _ | refine Below.alloc ?_ (by simp <;> omega) _)⟩
theorem eqBlind_same (x0 : Bool) (x1 : Int) (w : World) : Calls Try.prog 42 #[.agg #[.bool x0, .int .i64 x1], .agg #[.bool x0, .int .i64 x1]] w fun e w' => e = .returned (.bool true) ∧ Below w.heap.size w w' := by
  go_enter Try.func42, Try.ntmps42
  go_wp2
  go_ret
  exact ⟨rfl, (bel1 _ _).alloc (by simp) _⟩
section
variable {H : Type} {enc : TypeId × Value → H} {w : World} {base : Nat} {spare : Nat → Bool} {held : Bool}
set_option maxRecDepth 100000 in
theorem decBlind (fuel : Nat) (cs : List Value) (x : DataW H × List MemPlace) (h : DataW.trod enc Try.prog w base spare held fuel 30 cs = some x) : ∃ v : VBlind, cs = encBlind.enc v ∧ True ∧ Wf v.2 := by
  obtain ⟨y0, y1, n, _, hlen, h0, h1⟩ := trod_struct2 Try.underlying30 h
  have hc : cs.length = 2 := hlen.trans (by kernel_rfl)
  match cs, hc with
  | [c0, c1], _ =>
    have e0 : (([c0, c1] : List Value).drop 0).take 1 = [c0] := rfl
    have e1 : (([c0, c1] : List Value).drop 1).take 1 = [c1] := rfl
    have k0 : Try.prog.cellsOf 4 = 1 := by kernel_rfl
    have k1 : Try.prog.cellsOf 3 = 1 := by kernel_rfl
    simp only [k0, k1, e0, e1] at h0 h1
    obtain ⟨a, ha, _⟩ := DataW.trod_bool Try.underlying4 h0
    obtain ⟨b, hb, _, hw⟩ := DataW.trod_int Try.underlying3 h1
    simp at ha hb
    exact ⟨(a, b), by rw [ha, hb]; rfl, trivial, hw⟩
set_option maxRecDepth 100000 in
theorem openBlind {r : Reach} {b0 : Nat} {v : Value} {d : DataW H} {p : List MemPlace} (hv : Value.okWide Try.prog w r b0 30 v) (h : DataW.Trod enc Try.prog w base spare held 30 v d p) : ∃ x : VBlind, v = .agg (encBlind.enc x).toArray ∧ (fun v => True ∧ Wf v.2) x :=
  open_struct encBlind (fun v => True ∧ Wf v.2) Try.underlying30 decBlind hv h
end
end Go.Proofs.Ytigndpajpofofaa
