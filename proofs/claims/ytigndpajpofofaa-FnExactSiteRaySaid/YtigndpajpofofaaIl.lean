/- Slices of numbers: how they lie in memory, rows of the call's own, comparisons and marks. -/
import Derived.Test.YtigndpajpofofaaRows
import Derived.Test.YtigndpajpofofaaHlp
import Derived.Deep.AppendLies
import Derived.OwnWalk
import Derived.Laws.MakeOwn
namespace Go.Proofs.Ytigndpajpofofaa
open Go.ChangeShapes Go.WideShapes Go.ChangeAt Go.RowKit
set_option linter.unusedSimpArgs false
set_option linter.unusedVariables false

def ints (xs : List Int) : List Value := xs.map (Value.int .i64)
theorem ints_len (xs : List Int) : (ints xs).length = xs.length := by simp [ints]
theorem ints_snoc (xs : List Int) (x : Int) : ints xs ++ [.int .i64 x] = ints (xs ++ [x]) := by simp [ints]
theorem ints_at (xs : List Int) (i : Nat) (h : i < xs.length) : (ints xs)[i]? = some (.int .i64 xs[i]) := by simp [ints, h]
theorem ints_set (xs : List Int) (i : Nat) (x : Int) : (ints xs).set i (.int .i64 x) = ints (xs.set i x) := by simp [ints, List.map_set]
theorem cell_next {w w' : World} {b o : Nat} {v : Value} (h : w.cell? ⟨b, o, none⟩ = some v) (hw : Below w.heap.size w w') : w'.cell? ⟨b, o, none⟩ = some v := by
  rw [hw.cell (p := ⟨b, o, none⟩) (World.block_lt_of_cell? w _ h)]; exact h
/-- A slice that reads as a list of numbers. -/
def IRow (w : World) (A : Option Addr) (xs : List Int) : Prop :=
  xs = [] ∨ ∃ b off : Nat, A = some ⟨b, off, none⟩ ∧ ∀ i (h : i < xs.length), w.cell? ⟨b, off + i, none⟩ = some (.int .i64 xs[i])
theorem IRow.nil (w : World) (A : Option Addr) : IRow w A [] := .inl rfl
theorem IRow.at_ {w : World} {A : Option Addr} {xs : List Int} (h : IRow w A xs) {i : Nat} (hi : i < xs.length) :
    ∃ b off : Nat, A = some ⟨b, off, none⟩ ∧ b < w.heap.size ∧ w.cell? ⟨b, off + i, none⟩ = some (.int .i64 xs[i]) := by
  rcases h with rfl | ⟨b, off, rfl, h⟩
  · simp at hi
  · exact ⟨b, off, rfl, World.block_lt_of_cell? w _ (h i hi), h i hi⟩
theorem IRow.next {w w' : World} {A : Option Addr} {xs : List Int} (h : IRow w A xs) (hw : Below w.heap.size w w') : IRow w' A xs := by
  rcases h with rfl | ⟨b, off, rfl, h⟩
  · exact .inl rfl
  · exact .inr ⟨b, off, rfl, fun i hi => cell_next (h i hi) hw⟩
/-- A block that is just these numbers. -/
def IBlk (w : World) (g : Nat) (T : TypeId) (xs : List Int) : Prop := w.heap[g]? = some (.cells (ints xs).toArray T (0, 0))
theorem IBlk.cell {w : World} {g : Nat} {T : TypeId} {xs : List Int} (h : IBlk w g T xs) (i : Nat) (hi : i < xs.length) : w.cell? ⟨g, i, none⟩ = some (.int .i64 xs[i]) := by
  have h1 := ints_at xs i hi
  unfold IBlk at h
  simp [World.cell?, h, h1]
theorem IBlk.frozen {w : World} {g : Nat} {T : TypeId} {xs : List Int} (h : IBlk w g T xs) (i : Nat) : w.frozen? ⟨g, i, none⟩ = false := by
  unfold IBlk at h
  simp [World.frozen?, h]
theorem IBlk.lt {w : World} {g : Nat} {T : TypeId} {xs : List Int} (h : IBlk w g T xs) : g < w.heap.size := blk_lt h
theorem IBlk.next {w w' : World} {g : Nat} {T : TypeId} {xs : List Int} (h : IBlk w g T xs) (hw : Below w.heap.size w w') : IBlk w' g T xs := blk_next h hw
theorem iblk_setAt {w : World} {g i : Nat} {cs : Array Value} {T : TypeId} {v : Value} (h : w.heap[g]? = some (.cells cs T (0, 0))) : (w.setCell ⟨g, i, none⟩ v).heap[g]? = some (.cells (cs.setIfInBounds i v) T (0, 0)) := by
  simp [World.setCell, Array.getElem?_modify, h]
theorem IBlk.set {w : World} {g : Nat} {T : TypeId} {xs : List Int} (h : IBlk w g T xs) (i : Nat) (x : Int) : IBlk (w.setCell ⟨g, i, none⟩ (.int .i64 x)) g T (xs.set i x) := by
  have := iblk_setAt (i := i) (v := .int .i64 x) h
  unfold IBlk
  rw [this, ← ints_set xs i x]
  simp
theorem IBlk.row {w : World} {g : Nat} {T : TypeId} {xs : List Int} (h : IBlk w g T xs) : IRow w (some ⟨g, 0, none⟩) xs :=
  .inr ⟨g, 0, rfl, fun i hi => by have := h.cell i hi; simpa using this⟩
/-- A row of numbers of the call's own: nil, or a block of its own. -/
def OwnI (w : World) (base : Nat) (A : Option Addr) (cap : Nat) (xs : List Int) : Prop := w.ownsRow base 3 1 (.slice A xs.length cap) xs.length (ints xs)
theorem OwnI.nil (w : World) (base : Nat) : OwnI w base none 0 [] := World.ownsRow_nil w base 3 1
theorem OwnI.empty {w : World} {g : Nat} (h : w.heap[g]? = some (.cells #[] 3 (0, 0))) {base : Nat} (hb : base ≤ g) : OwnI w base (some ⟨g, 0, none⟩) 0 [] :=
  ⟨by simp [ints], .inr ⟨g, 0, #[], rfl, hb, h, by simp, by simp, by simp, by simp [ints]⟩⟩
theorem OwnI.form {w : World} {base : Nat} {A : Option Addr} {cap : Nat} {xs : List Int} (h : OwnI w base A cap xs) : (A = none ∧ xs = [] ∧ cap = 0) ∨ ∃ g, A = some ⟨g, 0, none⟩ ∧ base ≤ g ∧ g < w.heap.size := by
  have hlt := World.ownsRow.lt h
  rcases h.2 with ⟨e, e0⟩ | ⟨g, cap', cur, e, hb, hg, _⟩
  · left
    simp only [Value.slice.injEq] at e
    exact ⟨e.1, List.length_eq_zero_iff.1 e0, e.2.2⟩
  · right
    simp only [Value.slice.injEq] at e
    obtain ⟨rfl, _, rfl⟩ := e
    exact ⟨g, rfl, hlt g rfl⟩
theorem OwnI.next {w w' : World} {base : Nat} {A : Option Addr} {cap : Nat} {xs : List Int} (h : OwnI w base A cap xs) (hx : Below w.heap.size w w') : OwnI w' base A cap xs :=
  World.ownsRow.kept (row := none) h ⟨hx.os, hx.tape, hx.output, hx.size, fun k hk _ => hx.block k hk⟩ (by cases h' : Value.ownBlock (.slice A xs.length cap) <;> simp)
theorem OwnI.alloc {w : World} {base : Nat} {A : Option Addr} {cap : Nat} {xs : List Int} (h : OwnI w base A cap xs) (o : Obj) : OwnI (w.alloc o) base A cap xs := World.ownsRow.alloc h o
theorem OwnI.drew {w : World} {base : Nat} {A : Option Addr} {cap : Nat} {xs : List Int} (h : OwnI w base A cap xs) : OwnI w.drew base A cap xs := World.ownsRow.drew h
theorem OwnI.mono {w : World} {base base' : Nat} {A : Option Addr} {cap : Nat} {xs : List Int} (h : OwnI w base A cap xs) (hb : base' ≤ base) : OwnI w base' A cap xs := by
  refine ⟨h.1, ?_⟩
  rcases h.2 with h2 | ⟨g, cap', cur, e, hb2, h3⟩
  · exact .inl h2
  · exact .inr ⟨g, cap', cur, e, Nat.le_trans hb hb2, h3⟩
theorem OwnI.cell {w : World} {base g cap : Nat} {xs : List Int} (h : OwnI w base (some ⟨g, 0, none⟩) cap xs) (i : Nat) (hi : i < xs.length) : w.cell? ⟨g, i, none⟩ = some (.int .i64 xs[i]) := by
  have h1 := World.ownsRow.cellAt h i (by omega)
  rw [h1]; exact ints_at xs i hi
theorem OwnI.frozen {w : World} {base g cap : Nat} {xs : List Int} (h : OwnI w base (some ⟨g, 0, none⟩) cap xs) (i : Nat) : w.frozen? ⟨g, i, none⟩ = false := World.ownsRow.frozenAt h i
theorem OwnI.at_ {w : World} {base : Nat} {A : Option Addr} {cap : Nat} {xs : List Int} (h : OwnI w base A cap xs) {i : Nat} (hi : i < xs.length) :
    ∃ g, A = some ⟨g, 0, none⟩ ∧ base ≤ g ∧ g < w.heap.size ∧ w.cell? ⟨g, i, none⟩ = some (.int .i64 xs[i]) ∧ w.frozen? ⟨g, i, none⟩ = false := by
  rcases h.form with ⟨_, rfl, _⟩ | ⟨g, rfl, hb, hg⟩
  · simp at hi
  · exact ⟨g, rfl, hb, hg, h.cell i hi, h.frozen i⟩
theorem OwnI.row {w : World} {base : Nat} {A : Option Addr} {cap : Nat} {xs : List Int} (h : OwnI w base A cap xs) : IRow w A xs := by
  rcases h.form with ⟨_, rfl, _⟩ | ⟨g, rfl, hb, hg⟩
  · exact .inl rfl
  · exact .inr ⟨g, 0, rfl, fun i hi => by have := h.cell i hi; simpa using this⟩
theorem OwnI.set {w : World} {base g cap : Nat} {xs : List Int} (h : OwnI w base (some ⟨g, 0, none⟩) cap xs) (i : Nat) (x : Int) : OwnI (w.setCell ⟨g, i, none⟩ (.int .i64 x)) base (some ⟨g, 0, none⟩) cap (xs.set i x) := by
  have := (World.ownsRow.stored h i (.int .i64 x)).1
  unfold OwnI
  rw [ints_set] at this
  simpa using this
/-- A store into another block. -/
theorem OwnI.far {w : World} {base : Nat} {A : Option Addr} {cap : Nat} {xs : List Int} (h : OwnI w base A cap xs) {C : Nat} (hne : ∀ g, A = some ⟨g, 0, none⟩ → g ≠ C) (i : Nat) (v : Value) : OwnI (w.setCell ⟨C, i, none⟩ v) base A cap xs := by
  refine World.ownsRow.kept (row := some C) h ⟨rfl, rfl, rfl, by simp [World.setCell], fun k hk hk2 => by
    rw [Below.heap_setCell _ _ _ _ (fun e => hk2 (by rw [e]))]⟩ ?_
  rcases h.form with ⟨rfl, _⟩ | ⟨g, rfl, _⟩
  · exact .inl rfl
  · exact .inr (by simp [Value.ownBlock]; exact hne g rfl)
theorem IBlk.far {w : World} {g : Nat} {T : TypeId} {xs : List Int} (h : IBlk w g T xs) {C : Nat} (hne : g ≠ C) (i : Nat) (v : Value) : IBlk (w.setCell ⟨C, i, none⟩ v) g T xs := by
  unfold IBlk; rw [Below.heap_setCell _ _ _ _ hne]; exact h
theorem IBlk.grown {w w' : World} {g : Nat} {T : TypeId} {xs : List Int} {row : Option Nat} (h : IBlk w g T xs) (hg : w.grownBy w' row) (hne : ∀ k, row = some k → g ≠ k) : IBlk w' g T xs := by
  unfold IBlk; rw [hg.block g h.lt (fun e => hne g e.symm rfl)]; exact h
theorem grown_refl (w : World) (row : Option Nat) : w.grownBy w row := ⟨rfl, rfl, rfl, Nat.le_refl _, fun _ _ _ => rfl⟩
theorem grown_store {w w' : World} {g i n cap : Nat} (h : w.grownBy w' (Value.ownBlock (.slice (some ⟨g, 0, none⟩) n cap))) (v : Value) : w.grownBy (w'.setCell ⟨g, i, none⟩ v) (Value.ownBlock (.slice (some ⟨g, 0, none⟩) n cap)) :=
  ⟨h.os, h.tape, h.output, by simpa [World.setCell] using h.size, fun k hk hne => by
    have : k ≠ g := fun e => hne (by simp [Value.ownBlock, e])
    rw [Below.heap_setCell _ _ _ _ this]; exact h.block k hk hne⟩
theorem OwnI.grown_far {w w' : World} {base : Nat} {A : Option Addr} {cap : Nat} {xs : List Int} {row : Option Nat} (h : OwnI w base A cap xs) (hg : w.grownBy w' row) (hne : ∀ g, A = some ⟨g, 0, none⟩ → row ≠ some g) : OwnI w' base A cap xs := by
  refine World.ownsRow.kept h hg ?_
  rcases h.form with ⟨rfl, _⟩ | ⟨g, rfl, _⟩
  · exact .inl rfl
  · exact .inr (by simp [Value.ownBlock]; exact fun e => hne g rfl e.symm)
theorem ownB {A : Option Addr} {n cap k : Nat} : Value.ownBlock (.slice A n cap) = some k ↔ ∃ a, A = some a ∧ a.block = k := by
  cases A <;> simp [Value.ownBlock]
theorem infoI : (Try.prog.info? 3).map (fun i => (i.zero, i.size, i.bytes)) = some (some (.int .i64 0), 1, 8) := by kernel_rfl
theorem one_cell (x : Int) : ∀ u ∈ [Value.int .i64 x], u.oneCell' = true := by intro u hu; simp at hu; subst hu; rfl
theorem new_one (w : World) (x : Int) : ∀ j u, [Value.int .i64 x][j]? = some u → (w.alloc (.cells #[.int .i64 x] 3)).cell? ((⟨w.heap.size, 0, none⟩ : Addr).add j) = some u :=
  World.news_of_block (cs := #[.int .i64 x]) (blk_new w _)
/-- Behind an append of one number: the new row, and where old memory is kept. -/
theorem OwnI.snoc {w' : World} {base : Nat} {cap' : Nat} {xs : List Int} {x : Int} {g : Nat} (h : w'.ownsRow base 3 1 (.slice (some ⟨g, 0, none⟩) (xs.length + 1) cap') (xs.length + 1) (ints xs ++ [.int .i64 x])) : OwnI w' base (some ⟨g, 0, none⟩) cap' (xs ++ [x]) := by
  unfold OwnI; rw [ints_snoc] at h; simpa using h
theorem OwnI.below_grown {w0 w w' : World} {A : Option Addr} {cap : Nat} {xs : List Int} {n : Nat} (h : OwnI w w0.heap.size A cap xs) (hB : Below w0.heap.size w0 w) (hg : w.grownBy w' (Value.ownBlock (.slice A n cap))) : Below w0.heap.size w0 w' := by
  refine hB.grown hg hB.size (fun j hj => ?_)
  rcases h.form with ⟨rfl, _⟩ | ⟨g, rfl, hb, _⟩
  · simp [Value.ownBlock] at hj
  · simp [Value.ownBlock] at hj; omega
theorem store1_bel {w0 w : World} {C : Nat} (h : Below w0.heap.size w0 w) (hC : w0.heap.size ≤ C) (i : Nat) (v : Value) : Below w0.heap.size w0 (w.setCell ⟨C, i, none⟩ v) :=
  h.setCell (p := ⟨C, i, none⟩) hC v
/-- A list that is filled up to k. -/
def fillTo (f : Nat → Int) (n k : Nat) : List Int := (List.range k).map f ++ List.replicate (n - k) 0
theorem fillTo_len (f : Nat → Int) {n k : Nat} (hk : k ≤ n) : (fillTo f n k).length = n := by simp [fillTo]; omega
theorem fillTo_next (f : Nat → Int) {n k : Nat} (hk : k < n) : (fillTo f n k).set k (f k) = fillTo f n (k + 1) := by
  unfold fillTo
  rw [List.set_append_right _ _ (by simp), show n - k = (n - (k + 1)) + 1 by omega, List.replicate_succ, List.range_succ]
  simp
theorem fillTo_at (f : Nat → Int) {n i : Nat} (hi : i < n) (h : i < (fillTo f n n).length) : (fillTo f n n)[i] = f i := by
  simp [fillTo, hi]
theorem fillTo_zero (f : Nat → Int) (n : Nat) : fillTo f n 0 = List.replicate n 0 := by simp [fillTo]
/-- Marks from k on. -/
def marks (k : Int) (n : Nat) : List Int := (List.range n).map (fun i : Nat => k + (i : Int))
theorem marks_len (k : Int) (n : Nat) : (marks k n).length = n := by simp [marks]
theorem marks_at (k : Int) (n i : Nat) (h : i < (marks k n).length) : (marks k n)[i] = k + i := by simp [marks]
/-- A list of which the first k places are marked. -/
def markTo (xs : List Int) (k0 : Int) (k : Nat) : List Int := marks k0 k ++ xs.drop k
theorem markTo_len (xs : List Int) (k0 : Int) {k : Nat} (hk : k ≤ xs.length) : (markTo xs k0 k).length = xs.length := by simp [markTo, marks_len]; omega
theorem markTo_next (xs : List Int) (k0 : Int) {k : Nat} (hk : k < xs.length) : (markTo xs k0 k).set k (k0 + k) = markTo xs k0 (k + 1) := by
  unfold markTo
  rw [List.set_append_right _ _ (by simp [marks_len]), List.drop_eq_getElem_cons hk, marks_len, Nat.sub_self, List.set_cons_zero]
  simp [marks, List.range_succ]
theorem markTo_zero (xs : List Int) (k0 : Int) : markTo xs k0 0 = xs := by simp [markTo, marks]
theorem markTo_all (xs : List Int) (k0 : Int) : markTo xs k0 xs.length = marks k0 xs.length := by simp [markTo]
end Go.Proofs.Ytigndpajpofofaa
