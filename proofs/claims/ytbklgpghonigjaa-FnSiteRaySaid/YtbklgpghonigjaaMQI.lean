/- QI: texts joined. -/
import Derived.Test.YtbklgpghonigjaaRows
import Derived.Test.YtbklgpghonigjaaMQA
import Derived.Deep.AppendLies
import Derived.OwnWalk
import Derived.Laws.MakeOwn
import Derived.Test.YtbklgpghonigjaaMQD
namespace Go.Proofs.Ytbklgpghonigjaa
open Go.ChangeShapes Go.WideShapes Go.ChangeAt Go.RowKit
set_option linter.unusedSimpArgs false
set_option linter.unusedVariables false
def ints (xs : List Int) : List Value := xs.map (Value.int .i64)
theorem ints_snoc (xs : List Int) (x : Int) : ints xs ++ [.int .i64 x] = ints (xs ++ [x]) := by simp [ints]
theorem ints_at (xs : List Int) (i : Nat) (h : i < xs.length) : (ints xs)[i]? = some (.int .i64 xs[i]) := by simp [ints, h]
theorem cell_next {w w' : World} {b o : Nat} {v : Value} (h : w.cell? ⟨b, o, none⟩ = some v) (hw : Below w.heap.size w w') : w'.cell? ⟨b, o, none⟩ = some v := by
  rw [hw.cell (p := ⟨b, o, none⟩) (World.block_lt_of_cell? w _ h)]; exact h
/-- A slice that reads as a list of numbers. -/
def IRow (w : World) (A : Option Addr) (xs : List Int) : Prop :=
  xs = [] ∨ ∃ b off : Nat, A = some ⟨b, off, none⟩ ∧ ∀ i (h : i < xs.length), w.cell? ⟨b, off + i, none⟩ = some (.int .i64 xs[i])
theorem IRow.nil (w : World) (A : Option Addr) : IRow w A [] := .inl rfl
theorem IRow.at_ {w : World} {A : Option Addr} {xs : List Int} (h : IRow w A xs) {i : Nat} (hi : i < xs.length) :
    ∃ b off : Nat, A = some ⟨b, off, none⟩ ∧ b < w.heap.size ∧ w.cell? ⟨b, off + i, none⟩ = some (.int .i64 xs[i]) := by
  rcases h with rfl | ⟨b, off, rfl, h⟩
  · simp at hi
  · exact ⟨b, off, rfl, World.block_lt_of_cell? w _ (h i hi), h i hi⟩
theorem IRow.next {w w' : World} {A : Option Addr} {xs : List Int} (h : IRow w A xs) (hw : Below w.heap.size w w') : IRow w' A xs := by
  rcases h with rfl | ⟨b, off, rfl, h⟩
  · exact .inl rfl
  · exact .inr ⟨b, off, rfl, fun i hi => cell_next (h i hi) hw⟩
/-- A block that is just these numbers. -/
def IBlk (w : World) (g : Nat) (T : TypeId) (xs : List Int) : Prop := w.heap[g]? = some (.cells (ints xs).toArray T (0, 0))
theorem IBlk.cell {w : World} {g : Nat} {T : TypeId} {xs : List Int} (h : IBlk w g T xs) (i : Nat) (hi : i < xs.length) : w.cell? ⟨g, i, none⟩ = some (.int .i64 xs[i]) := by
  have h1 := ints_at xs i hi
  unfold IBlk at h
  simp [World.cell?, h, h1]
theorem IBlk.frozen {w : World} {g : Nat} {T : TypeId} {xs : List Int} (h : IBlk w g T xs) (i : Nat) : w.frozen? ⟨g, i, none⟩ = false := by
  unfold IBlk at h
  simp [World.frozen?, h]
theorem IBlk.lt {w : World} {g : Nat} {T : TypeId} {xs : List Int} (h : IBlk w g T xs) : g < w.heap.size := blk_lt h
theorem IBlk.next {w w' : World} {g : Nat} {T : TypeId} {xs : List Int} (h : IBlk w g T xs) (hw : Below w.heap.size w w') : IBlk w' g T xs := blk_next h hw
theorem IBlk.row {w : World} {g : Nat} {T : TypeId} {xs : List Int} (h : IBlk w g T xs) : IRow w (some ⟨g, 0, none⟩) xs :=
  .inr ⟨g, 0, rfl, fun i hi => by have := h.cell i hi; simpa using this⟩
/-- A row of numbers of the call's own: nil, or a block of its own. -/
def OwnI (w : World) (base : Nat) (A : Option Addr) (cap : Nat) (xs : List Int) : Prop := w.ownsRow base 3 1 (.slice A xs.length cap) xs.length (ints xs)
theorem OwnI.nil (w : World) (base : Nat) : OwnI w base none 0 [] := World.ownsRow_nil w base 3 1
theorem OwnI.empty {w : World} {g : Nat} (h : w.heap[g]? = some (.cells #[] 3 (0, 0))) {base : Nat} (hb : base ≤ g) : OwnI w base (some ⟨g, 0, none⟩) 0 [] :=
  ⟨by simp [ints], .inr ⟨g, 0, #[], rfl, hb, h, by simp, by simp, by simp, by simp [ints]⟩⟩
theorem OwnI.form {w : World} {base : Nat} {A : Option Addr} {cap : Nat} {xs : List Int} (h : OwnI w base A cap xs) : (A = none ∧ xs = [] ∧ cap = 0) ∨ ∃ g, A = some ⟨g, 0, none⟩ ∧ base ≤ g ∧ g < w.heap.size := by
  have hlt := World.ownsRow.lt h
  rcases h.2 with ⟨e, e0⟩ | ⟨g, cap', cur, e, hb, hg, _⟩
  · left
    simp only [Value.slice.injEq] at e
    exact ⟨e.1, List.length_eq_zero_iff.1 e0, e.2.2⟩
  · right
    simp only [Value.slice.injEq] at e
    obtain ⟨rfl, _, rfl⟩ := e
    exact ⟨g, rfl, hlt g rfl⟩
theorem OwnI.next {w w' : World} {base : Nat} {A : Option Addr} {cap : Nat} {xs : List Int} (h : OwnI w base A cap xs) (hx : Below w.heap.size w w') : OwnI w' base A cap xs :=
  World.ownsRow.kept (row := none) h ⟨hx.os, hx.tape, hx.output, hx.size, fun k hk _ => hx.block k hk⟩ (by cases h' : Value.ownBlock (.slice A xs.length cap) <;> simp)
theorem OwnI.alloc {w : World} {base : Nat} {A : Option Addr} {cap : Nat} {xs : List Int} (h : OwnI w base A cap xs) (o : Obj) : OwnI (w.alloc o) base A cap xs := World.ownsRow.alloc h o
theorem OwnI.drew {w : World} {base : Nat} {A : Option Addr} {cap : Nat} {xs : List Int} (h : OwnI w base A cap xs) : OwnI w.drew base A cap xs := World.ownsRow.drew h
theorem OwnI.mono {w : World} {base base' : Nat} {A : Option Addr} {cap : Nat} {xs : List Int} (h : OwnI w base A cap xs) (hb : base' ≤ base) : OwnI w base' A cap xs := by
  refine ⟨h.1, ?_⟩
  rcases h.2 with h2 | ⟨g, cap', cur, e, hb2, h3⟩
  · exact .inl h2
  · exact .inr ⟨g, cap', cur, e, Nat.le_trans hb hb2, h3⟩
theorem OwnI.cell {w : World} {base g cap : Nat} {xs : List Int} (h : OwnI w base (some ⟨g, 0, none⟩) cap xs) (i : Nat) (hi : i < xs.length) : w.cell? ⟨g, i, none⟩ = some (.int .i64 xs[i]) := by
  have h1 := World.ownsRow.cellAt h i (by omega)
  rw [h1]; exact ints_at xs i hi
theorem OwnI.frozen {w : World} {base g cap : Nat} {xs : List Int} (h : OwnI w base (some ⟨g, 0, none⟩) cap xs) (i : Nat) : w.frozen? ⟨g, i, none⟩ = false := World.ownsRow.frozenAt h i
theorem OwnI.at_ {w : World} {base : Nat} {A : Option Addr} {cap : Nat} {xs : List Int} (h : OwnI w base A cap xs) {i : Nat} (hi : i < xs.length) :
    ∃ g, A = some ⟨g, 0, none⟩ ∧ base ≤ g ∧ g < w.heap.size ∧ w.cell? ⟨g, i, none⟩ = some (.int .i64 xs[i]) ∧ w.frozen? ⟨g, i, none⟩ = false := by
  rcases h.form with ⟨_, rfl, _⟩ | ⟨g, rfl, hb, hg⟩
  · simp at hi
  · exact ⟨g, rfl, hb, hg, h.cell i hi, h.frozen i⟩
theorem OwnI.row {w : World} {base : Nat} {A : Option Addr} {cap : Nat} {xs : List Int} (h : OwnI w base A cap xs) : IRow w A xs := by
  rcases h.form with ⟨_, rfl, _⟩ | ⟨g, rfl, hb, hg⟩
  · exact .inl rfl
  · exact .inr ⟨g, 0, rfl, fun i hi => by have := h.cell i hi; simpa using this⟩
/-- A store into another block. -/
theorem OwnI.far {w : World} {base : Nat} {A : Option Addr} {cap : Nat} {xs : List Int} (h : OwnI w base A cap xs) {C : Nat} (hne : ∀ g, A = some ⟨g, 0, none⟩ → g ≠ C) (i : Nat) (v : Value) : OwnI (w.setCell ⟨C, i, none⟩ v) base A cap xs := by
  refine World.ownsRow.kept (row := some C) h ⟨rfl, rfl, rfl, by simp [World.setCell], fun k hk hk2 => by
    rw [Below.heap_setCell _ _ _ _ (fun e => hk2 (by rw [e]))]⟩ ?_
  rcases h.form with ⟨rfl, _⟩ | ⟨g, rfl, _⟩
  · exact .inl rfl
  · exact .inr (by simp [Value.ownBlock]; exact hne g rfl)
theorem IBlk.far {w : World} {g : Nat} {T : TypeId} {xs : List Int} (h : IBlk w g T xs) {C : Nat} (hne : g ≠ C) (i : Nat) (v : Value) : IBlk (w.setCell ⟨C, i, none⟩ v) g T xs := by
  unfold IBlk; rw [Below.heap_setCell _ _ _ _ hne]; exact h
theorem OwnI.grown_far {w w' : World} {base : Nat} {A : Option Addr} {cap : Nat} {xs : List Int} {row : Option Nat} (h : OwnI w base A cap xs) (hg : w.grownBy w' row) (hne : ∀ g, A = some ⟨g, 0, none⟩ → row ≠ some g) : OwnI w' base A cap xs := by
  refine World.ownsRow.kept h hg ?_
  rcases h.form with ⟨rfl, _⟩ | ⟨g, rfl, _⟩
  · exact .inl rfl
  · exact .inr (by simp [Value.ownBlock]; exact fun e => hne g rfl e.symm)
/-- Behind an append of one number: the new row, and where old memory is kept. -/
theorem OwnI.snoc {w' : World} {base : Nat} {cap' : Nat} {xs : List Int} {x : Int} {g : Nat} (h : w'.ownsRow base 3 1 (.slice (some ⟨g, 0, none⟩) (xs.length + 1) cap') (xs.length + 1) (ints xs ++ [.int .i64 x])) : OwnI w' base (some ⟨g, 0, none⟩) cap' (xs ++ [x]) := by
  unfold OwnI; rw [ints_snoc] at h; simpa using h
/-- Marks from k on. -/
def marks (k : Int) (n : Nat) : List Int := (List.range n).map (fun i : Nat => k + (i : Int))
end Go.Proofs.Ytbklgpghonigjaa
namespace Go.Proofs.Ytbklgpghonigjaa
open Go Go.ChangeShapes Go.WideShapes Go.ChangeAt Go.RowKit
set_option linter.unusedSimpArgs false
set_option linter.unusedVariables false
/-- An interval: its start and its end over a denominator. -/
abbrev Tri := Int × Int × Int
def losT (T : List Tri) : List Int := T.map (·.1)
def hisT (T : List Tri) : List Int := T.map (·.2.1)
def desT (T : List Tri) : List Int := T.map (·.2.2)
end Go.Proofs.Ytbklgpghonigjaa
namespace Go.Proofs.Ytbklgpghonigjaa
open Go Go.ChangeShapes Go.WideShapes Go.ChangeAt Go.RowKit
set_option linter.unusedSimpArgs false
set_option linter.unusedVariables false
/-- Three rows of the call's own, in three blocks. -/
def Ap (w : World) (base ga ca : Nat) (xs : List Int) (gb cb : Nat) (ys : List Int) (gc cc : Nat) (zs : List Int) : Prop :=
  OwnI w base (some ⟨ga, 0, none⟩) ca xs ∧ OwnI w base (some ⟨gb, 0, none⟩) cb ys ∧ OwnI w base (some ⟨gc, 0, none⟩) cc zs ∧ ga ≠ gb ∧ ga ≠ gc ∧ gb ≠ gc
theorem Ap.next {w w' : World} {base ga ca gb cb gc cc : Nat} {xs ys zs : List Int} (h : Ap w base ga ca xs gb cb ys gc cc zs) (hw : Below w.heap.size w w') : Ap w' base ga ca xs gb cb ys gc cc zs :=
  ⟨h.1.next hw, h.2.1.next hw, h.2.2.1.next hw, h.2.2.2⟩
def St (w0 : World) (oP oQ oR : Obj) (T : List Tri) (ga ca gb cb gc cc : Nat) (w : World) : Prop :=
  w.heap[w0.heap.size]? = some oP ∧ w.heap[w0.heap.size + 1]? = some oQ ∧ w.heap[w0.heap.size + 1 + 1]? = some oR ∧ Below w0.heap.size w0 w ∧ Ap w (w0.heap.size + 3) ga ca (losT T) gb cb (hisT T) gc cc (desT T)
theorem St.next {w0 w w' : World} {oP oQ oR : Obj} {T : List Tri} {ga ca gb cb gc cc : Nat} (h : St w0 oP oQ oR T ga ca gb cb gc cc w) (hw : Below w.heap.size w w') : St w0 oP oQ oR T ga ca gb cb gc cc w' :=
  ⟨blk_next h.1 hw, blk_next h.2.1 hw, blk_next h.2.2.1 hw, bel_next h.2.2.2.1 hw, h.2.2.2.2.next hw⟩
theorem losT_len (T : List Tri) : (losT T).length = T.length := by simp [losT]
theorem hisT_len (T : List Tri) : (hisT T).length = T.length := by simp [hisT]
theorem desT_len (T : List Tri) : (desT T).length = T.length := by simp [desT]
theorem losT_at (T : List Tri) (i : Nat) (h : i < (losT T).length) : (losT T)[i] = (T[i]'(by simpa [losT] using h)).1 := by simp [losT]
theorem hisT_at (T : List Tri) (i : Nat) (h : i < (hisT T).length) : (hisT T)[i] = (T[i]'(by simpa [hisT] using h)).2.1 := by simp [hisT]
theorem desT_at (T : List Tri) (i : Nat) (h : i < (desT T).length) : (desT T)[i] = (T[i]'(by simpa [desT] using h)).2.2 := by simp [desT]
theorem St.cells {w0 w : World} {oP oQ oR : Obj} {T : List Tri} {ga ca gb cb gc cc : Nat} (h : St w0 oP oQ oR T ga ca gb cb gc cc w) (i : Nat) (hi : i < T.length) :
    w.cell? ⟨ga, i, none⟩ = some (.int .i64 T[i].1) ∧ w.cell? ⟨gb, i, none⟩ = some (.int .i64 T[i].2.1) ∧ w.cell? ⟨gc, i, none⟩ = some (.int .i64 T[i].2.2) := by
  obtain ⟨h1, h2, h3, _⟩ := h.2.2.2.2
  refine ⟨?_, ?_, ?_⟩
  · have := h1.cell i (by rw [losT_len]; exact hi); rwa [losT_at] at this
  · have := h2.cell i (by rw [hisT_len]; exact hi); rwa [hisT_at] at this
  · have := h3.cell i (by rw [desT_len]; exact hi); rwa [desT_at] at this
end Go.Proofs.Ytbklgpghonigjaa
