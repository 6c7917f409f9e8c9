/- QA: texts joined. -/
import Derived.WalkKit
import Derived.ProofKit
import Derived.OpenShut
import Derived.WalkLawsBesides
import Derived.Outline
import Derived.Deep.RegionHeld3
import Derived.Deep.QuietTactic
import Derived.BigQuiet
import Derived.Lib.Hide
import Derived.Lib.SmallJoins
import Derived.Deep.DeepCutAuto
import Derived.Deep.CutBlock
import Derived.Deep.AppendLies
import Derived.OwnWalk
import Derived.Laws.MakeOwn
import Derived.Deep.Slices
import Derived.Deep.Fields
import Derived.ChangeSame
import Derived.Test.YtbklgpghonigjaaGreatRows
namespace Go.Proofs.YtbklgpghonigjaaGreat
open Go.ChangeShapes Go.WideShapes Go.ChangeAt Go.RowKit
theorem ret_bool {a b : Bool} (h : a = b) : Ending.returned (.bool a) = .returned (.bool b) := by rw [h]
theorem ret_int {k : IntKind} {a b : Int} (h : a = b) : Ending.returned (.int k a) = .returned (.int k b) := by rw [h]
theorem bel_drewN {B : Nat} {a w : World} (h : Below B a w) (n : Nat) : Below B a (w.drewN n) := ⟨h.os, h.tape, h.output, h.size, h.block⟩
theorem bel1 (w : World) (o : Obj) : Below w.heap.size w (w.alloc o) := (Below.refl _ _).alloc (Nat.le_refl _) o
/-- Behind a callee that makes memory: what was there before the block of one's own is as it was. -/
theorem bel_next {w w1 w2 : World} (hB : Below w.heap.size w w1) (hw : Below w1.heap.size w1 w2) : Below w.heap.size w w2 := hB.trans (hw.mono hB.size)
theorem blk_lt {w : World} {b : Nat} {o : Obj} (h : w.heap[b]? = some o) : b < w.heap.size := by
  rcases Nat.lt_or_ge b w.heap.size with h' | h'
  · exact h'
  · simp [Array.getElem?_eq_none h'] at h
theorem blk_new (w : World) (o : Obj) : (w.alloc o).heap[w.heap.size]? = some o := by
  show (w.heap.push o)[w.heap.size]? = _
  simp
theorem blk_old {w : World} {b : Nat} {o : Obj} (h : w.heap[b]? = some o) (o' : Obj) : (w.alloc o').heap[b]? = some o := by
  rw [Below.heap_alloc w o' b (blk_lt h)]; exact h
theorem blk_next {w w2 : World} {b : Nat} {o : Obj} (h : w.heap[b]? = some o) (hw : Below w.heap.size w w2) : w2.heap[b]? = some o := by
  rw [hw.block b (blk_lt h)]; exact h
theorem blk3 {w : World} {b : Nat} {x y z : Value} {t : TypeId} (h : w.heap[b]? = some (.cells #[x, y, z] t (0, 0))) :
    w.cell? ⟨b, 0, none⟩ = some x ∧ w.cell? ⟨b, 1, none⟩ = some y ∧ w.cell? ⟨b, 2, none⟩ = some z ∧ w.frozen? ⟨b, 0, none⟩ = false ∧ w.frozen? ⟨b, 1, none⟩ = false ∧ w.frozen? ⟨b, 2, none⟩ = false ∧ b < w.heap.size :=
  ⟨by simp [World.cell?, h], by simp [World.cell?, h], by simp [World.cell?, h], by simp [World.frozen?, h], by simp [World.frozen?, h], by simp [World.frozen?, h], blk_lt h⟩
theorem blk2 {w : World} {b : Nat} {x y : Value} {t : TypeId} (h : w.heap[b]? = some (.cells #[x, y] t (0, 0))) :
    w.cell? ⟨b, 0, none⟩ = some x ∧ w.cell? ⟨b, 1, none⟩ = some y ∧ w.frozen? ⟨b, 0, none⟩ = false ∧ w.frozen? ⟨b, 1, none⟩ = false ∧ b < w.heap.size :=
  ⟨by simp [World.cell?, h], by simp [World.cell?, h], by simp [World.frozen?, h], by simp [World.frozen?, h], blk_lt h⟩
/-- Behind a first call, made in the world with a new block. -/
theorem ownb {w w1 : World} {o : Obj} (hb : Below (w.alloc o).heap.size (w.alloc o) w1) : w1.heap[w.heap.size]? = some o ∧ Below w.heap.size w w1 :=
  ⟨blk_next (blk_new w o) hb, bel_next (bel1 w o) hb⟩
theorem ownb2 {w w1 : World} {o o' : Obj} (hb : Below ((w.alloc o).alloc o').heap.size ((w.alloc o).alloc o') w1) : w1.heap[w.heap.size]? = some o ∧ w1.heap[w.heap.size + 1]? = some o' ∧ Below w.heap.size w w1 :=
  ⟨blk_next (blk_old (blk_new w o) o') hb, blk_next (by have := blk_new (w.alloc o) o'; simpa using this) hb, bel_next ((bel1 w o).alloc (by simp) o') hb⟩
end Go.Proofs.YtbklgpghonigjaaGreat
namespace Go.Proofs.YtbklgpghonigjaaGreat
open Go.ChangeShapes Go.WideShapes Go.ChangeAt Go.RowKit
set_option linter.unusedVariables false
theorem new2 (w : World) (o o' : Obj) : ((w.alloc o).alloc o').heap[w.heap.size + 1]? = some o' := by
  have := blk_new (w.alloc o) o'; simpa using this
theorem new3 (w : World) (o o' o'' : Obj) : (((w.alloc o).alloc o').alloc o'').heap[w.heap.size + 1 + 1]? = some o'' := by
  have := blk_new ((w.alloc o).alloc o') o''; simpa using this
theorem bel2 (w : World) (o o' : Obj) : Below w.heap.size w ((w.alloc o).alloc o') := (bel1 w o).alloc (by simp) o'
theorem bel3 (w : World) (o o' o'' : Obj) : Below w.heap.size w (((w.alloc o).alloc o').alloc o'') := (bel2 w o o').alloc (by simp; omega) o''
theorem blk_far {w : World} {k C i : Nat} {o : Obj} (h : w.heap[k]? = some o) (hne : k ≠ C) (v : Value) : (w.setCell ⟨C, i, none⟩ v).heap[k]? = some o := by
  rw [Below.heap_setCell _ _ _ _ hne]; exact h
theorem blk_store2 {w : World} {k C : Nat} {o : Obj} (h : w.heap[k]? = some o) (hne : k ≠ C) (a b : Value) : ((w.setCell ⟨C, 0, none⟩ a).setCell ⟨C, 1, none⟩ b).heap[k]? = some o :=
  blk_far (blk_far h hne a) hne b
theorem blk_store3 {w : World} {k C : Nat} {o : Obj} (h : w.heap[k]? = some o) (hne : k ≠ C) (a b c : Value) : (((w.setCell ⟨C, 0, none⟩ a).setCell ⟨C, 1, none⟩ b).setCell ⟨C, 2, none⟩ c).heap[k]? = some o :=
  blk_far (blk_store2 h hne a b) hne c
theorem store2_bel {w0 w : World} {C : Nat} (h : Below w0.heap.size w0 w) (hC : w0.heap.size ≤ C) (a b : Value) : Below w0.heap.size w0 ((w.setCell ⟨C, 0, none⟩ a).setCell ⟨C, 1, none⟩ b) :=
  (h.setCell (p := ⟨C, 0, none⟩) hC a).setCell (p := ⟨C, 1, none⟩) hC b
theorem blk2_set0 {w : World} {C : Nat} {x y a : Value} {t : TypeId} (h : w.heap[C]? = some (.cells #[x, y] t (0, 0))) : (w.setCell ⟨C, 0, none⟩ a).heap[C]? = some (.cells #[a, y] t (0, 0)) := by
  have hlt := blk_lt h
  have h' : w.heap[C] = .cells #[x, y] t (0, 0) := by simpa [Array.getElem?_eq_getElem hlt] using h
  show (w.heap.modify C _)[C]? = _
  rw [Array.getElem?_eq_getElem (by simpa using hlt), Array.getElem_modify_self, h']
  rfl
theorem blk2_set1 {w : World} {C : Nat} {x y b : Value} {t : TypeId} (h : w.heap[C]? = some (.cells #[x, y] t (0, 0))) : (w.setCell ⟨C, 1, none⟩ b).heap[C]? = some (.cells #[x, b] t (0, 0)) := by
  have hlt := blk_lt h
  have h' : w.heap[C] = .cells #[x, y] t (0, 0) := by simpa [Array.getElem?_eq_getElem hlt] using h
  show (w.heap.modify C _)[C]? = _
  rw [Array.getElem?_eq_getElem (by simpa using hlt), Array.getElem_modify_self, h']
  rfl
theorem blk2_set {w : World} {C : Nat} {x y a b : Value} {t : TypeId} (h : w.heap[C]? = some (.cells #[x, y] t (0, 0))) : ((w.setCell ⟨C, 0, none⟩ a).setCell ⟨C, 1, none⟩ b).heap[C]? = some (.cells #[a, b] t (0, 0)) :=
  blk2_set1 (blk2_set0 h)
end Go.Proofs.YtbklgpghonigjaaGreat
namespace Go.Proofs.YtbklgpghonigjaaGreat
open Go.ChangeShapes Go.WideShapes Go.ChangeAt Go.RowKit
set_option linter.unusedSimpArgs false
set_option linter.unusedVariables false
/-- How an element stands in memory: k cells. -/
structure Enc (α : Type) where
  k : Nat
  enc : α → List Value
  len : ∀ x, (enc x).length = k
  one : ∀ x, ∀ u ∈ enc x, u.oneCell' = true
  pos : 0 < k
section
variable {α : Type} (E : Enc α)
def Enc.flat (xs : List α) : List Value := xs.flatMap E.enc
theorem Enc.flat_nil : E.flat [] = [] := rfl
theorem Enc.flat_cons (x : α) (xs : List α) : E.flat (x :: xs) = E.enc x ++ E.flat xs := by simp [Enc.flat]
theorem Enc.flat_len : ∀ xs : List α, (E.flat xs).length = xs.length * E.k
  | [] => by simp [Enc.flat_nil]
  | x :: xs => by rw [E.flat_cons, List.length_append, E.len, Enc.flat_len xs, List.length_cons, Nat.add_mul]; omega
theorem Enc.flat_snoc (xs : List α) (x : α) : E.flat xs ++ E.enc x = E.flat (xs ++ [x]) := by simp [Enc.flat]
theorem Enc.flat_one (xs : List α) : ∀ u ∈ E.flat xs, u.oneCell' = true := by
  intro u hu
  obtain ⟨x, _, hx⟩ := List.mem_flatMap.1 hu
  exact E.one x u hx
theorem Enc.flat_at : ∀ (xs : List α) (i : Nat) (h : i < xs.length) (j : Nat), j < E.k → (E.flat xs)[i * E.k + j]? = (E.enc xs[i])[j]?
  | [], i, h, _, _ => by simp at h
  | x :: xs, 0, _, j, hj => by rw [E.flat_cons, Nat.zero_mul, Nat.zero_add, List.getElem?_append_left (by rw [E.len]; exact hj)]; rfl
  | x :: xs, i + 1, h, j, hj => by
    rw [E.flat_cons, List.getElem?_append_right (by rw [E.len, Nat.add_mul]; omega), E.len, show (i + 1) * E.k + j - E.k = i * E.k + j by rw [Nat.add_mul]; omega]
    exact Enc.flat_at xs i (by simpa using h) j hj
theorem Enc.flat_get (xs : List α) (i : Nat) (h : i < xs.length) {j : Nat} {v : Value} (hv : (E.enc xs[i])[j]? = some v) : (E.flat xs)[i * E.k + j]? = some v := by
  have hj : j < E.k := by
    have := (List.getElem?_eq_some_iff.1 hv).1
    rwa [E.len] at this
  rw [E.flat_at xs i h j hj]; exact hv
theorem Enc.flat_rep (z : α) : ∀ n : Nat, E.flat (List.replicate n z) = (List.replicate n (E.enc z)).flatten
  | 0 => rfl
  | n + 1 => by rw [List.replicate_succ, E.flat_cons, Enc.flat_rep z n, List.replicate_succ, List.flatten_cons]
/-- Cells of a block, stored one behind the other. -/
def setAll (w : World) (g o : Nat) : List Value → World
  | [] => w
  | v :: r => setAll (w.setCell ⟨g, o, none⟩ v) g (o + 1) r
theorem setAll_far : ∀ (r : List Value) (w : World) (g o k : Nat), k ≠ g → (setAll w g o r).heap[k]? = w.heap[k]?
  | [], w, g, o, k, h => rfl
  | v :: r, w, g, o, k, h => by unfold setAll; rw [setAll_far r _ g (o + 1) k h, Below.heap_setCell _ _ _ _ h]
theorem setAll_size : ∀ (r : List Value) (w : World) (g o : Nat), (setAll w g o r).heap.size = w.heap.size
  | [], w, g, o => rfl
  | v :: r, w, g, o => by unfold setAll; rw [setAll_size r]; simp [World.setCell]
theorem setAll_os : ∀ (r : List Value) (w : World) (g o : Nat), (setAll w g o r).os = w.os ∧ (setAll w g o r).tape = w.tape ∧ (setAll w g o r).output = w.output
  | [], w, g, o => ⟨rfl, rfl, rfl⟩
  | v :: r, w, g, o => by unfold setAll; exact setAll_os r _ g (o + 1)
theorem setAll_grown {w w' : World} {g : Nat} (r : List Value) (o : Nat) (h : w.grownBy w' (some g)) : w.grownBy (setAll w' g o r) (some g) :=
  ⟨(setAll_os r w' g o).1.trans h.os, (setAll_os r w' g o).2.1.trans h.tape, (setAll_os r w' g o).2.2.trans h.output, by rw [setAll_size]; exact h.size, fun k hk hne => by rw [setAll_far r w' g o k (fun e => hne (by rw [e]))]; exact h.block k hk hne⟩
theorem celS_next {w w' : World} {b o : Nat} {v : Value} (h : w.cell? ⟨b, o, none⟩ = some v) (hw : Below w.heap.size w w') : w'.cell? ⟨b, o, none⟩ = some v := by
  rw [hw.cell (p := ⟨b, o, none⟩) (World.block_lt_of_cell? w _ h)]; exact h
/-- A slice that reads as a list. -/
def SRow (w : World) (A : Option Addr) (xs : List α) : Prop :=
  xs = [] ∨ ∃ b off : Nat, A = some ⟨b, off, none⟩ ∧ ∀ i (h : i < xs.length) (j : Nat) (v : Value), (E.enc xs[i])[j]? = some v → w.cell? ⟨b, off + (i * E.k + j), none⟩ = some v
variable {E}
theorem SRow.nil (w : World) (A : Option Addr) : SRow E w A [] := .inl rfl
theorem enc_first (x : α) : ∃ v, (E.enc x)[0]? = some v := by
  have h1 := E.len x
  have h2 := E.pos
  exact ⟨_, List.getElem?_eq_getElem (by omega)⟩
theorem SRow.at_ {w : World} {A : Option Addr} {xs : List α} (h : SRow E w A xs) {i : Nat} (hi : i < xs.length) :
    ∃ b off : Nat, A = some ⟨b, off, none⟩ ∧ b < w.heap.size ∧ ∀ (j : Nat) (v : Value), (E.enc xs[i])[j]? = some v → w.cell? ⟨b, off + (i * E.k + j), none⟩ = some v := by
  rcases h with rfl | ⟨b, off, rfl, h⟩
  · simp at hi
  · obtain ⟨v, hv⟩ := enc_first (E := E) xs[i]
    exact ⟨b, off, rfl, World.block_lt_of_cell? w _ (h i hi 0 v hv), h i hi⟩
theorem SRow.next {w w' : World} {A : Option Addr} {xs : List α} (h : SRow E w A xs) (hw : Below w.heap.size w w') : SRow E w' A xs := by
  rcases h with rfl | ⟨b, off, rfl, h⟩
  · exact .inl rfl
  · exact .inr ⟨b, off, rfl, fun i hi j v hv => celS_next (h i hi j v hv) hw⟩
variable (E) in
/-- A block that is just the list. -/
def SBlk (w : World) (g : Nat) (T : TypeId) (xs : List α) : Prop := w.heap[g]? = some (.cells (E.flat xs).toArray T (0, 0))
theorem SBlk.cell {w : World} {g : Nat} {T : TypeId} {xs : List α} (h : SBlk E w g T xs) (i : Nat) (hi : i < xs.length) (j : Nat) (v : Value) (hv : (E.enc xs[i])[j]? = some v) : w.cell? ⟨g, i * E.k + j, none⟩ = some v := by
  have h1 := E.flat_get xs i hi hv
  unfold SBlk at h
  simp [World.cell?, h, h1]
theorem SBlk.frozen {w : World} {g : Nat} {T : TypeId} {xs : List α} (h : SBlk E w g T xs) (i : Nat) : w.frozen? ⟨g, i, none⟩ = false := by
  unfold SBlk at h
  simp [World.frozen?, h]
theorem SBlk.lt {w : World} {g : Nat} {T : TypeId} {xs : List α} (h : SBlk E w g T xs) : g < w.heap.size := blk_lt h
theorem SBlk.next {w w' : World} {g : Nat} {T : TypeId} {xs : List α} (h : SBlk E w g T xs) (hw : Below w.heap.size w w') : SBlk E w' g T xs := blk_next h hw
theorem SBlk.row {w : World} {g : Nat} {T : TypeId} {xs : List α} (h : SBlk E w g T xs) : SRow E w (some ⟨g, 0, none⟩) xs :=
  .inr ⟨g, 0, rfl, fun i hi j v hv => by rw [Nat.zero_add]; exact h.cell i hi j v hv⟩
theorem SBlk.grown {w w' : World} {g : Nat} {T : TypeId} {xs : List α} {row : Option Nat} (h : SBlk E w g T xs) (hg : w.grownBy w' row) (hne : row ≠ some g) : SBlk E w' g T xs := by
  unfold SBlk; rw [hg.block g h.lt (fun e => hne e.symm)]; exact h
variable (E) in
/-- A row of the call's own: nil, or a block of its own. -/
def SOwn (w : World) (base : Nat) (T : TypeId) (A : Option Addr) (cap : Nat) (xs : List α) : Prop := w.ownsRow base T E.k (.slice A xs.length cap) xs.length (E.flat xs)
theorem SOwn.nil (w : World) (base : Nat) (T : TypeId) : SOwn E w base T none 0 [] := World.ownsRow_nil w base T E.k
theorem SOwn.empty {w : World} {g : Nat} {T : TypeId} (h : w.heap[g]? = some (.cells #[] T (0, 0))) {base : Nat} (hb : base ≤ g) : SOwn E w base T (some ⟨g, 0, none⟩) 0 [] :=
  ⟨by simp [E.flat_nil], .inr ⟨g, 0, #[], rfl, hb, h, by simp, by simp, by simp, by simp [E.flat_nil]⟩⟩
theorem SOwn.of_blk {w : World} {base g n : Nat} {T : TypeId} {xs : List α} (h : SBlk E w g T xs) (hb : base ≤ g) (hn : xs.length = n) (hm : n ≤ maxLen) : SOwn E w base T (some ⟨g, 0, none⟩) n xs := by
  refine ⟨E.flat_len xs, .inr ⟨g, n, (E.flat xs).toArray, by rw [hn], hb, h, by omega, hm, ?_, ?_⟩⟩
  · simp [E.flat_len, hn]
  · exact List.take_of_length_le (by rw [E.flat_len]; omega)
theorem SOwn.form {w : World} {base : Nat} {T : TypeId} {A : Option Addr} {cap : Nat} {xs : List α} (h : SOwn E w base T A cap xs) : (A = none ∧ xs = [] ∧ cap = 0) ∨ ∃ g, A = some ⟨g, 0, none⟩ ∧ base ≤ g ∧ g < w.heap.size := by
  have hlt := World.ownsRow.lt h
  rcases h.2 with ⟨e, e0⟩ | ⟨g, cap', cur, e, hb, hg, _⟩
  · left
    simp only [Value.slice.injEq] at e
    exact ⟨e.1, List.length_eq_zero_iff.1 e0, e.2.2⟩
  · right
    simp only [Value.slice.injEq] at e
    obtain ⟨rfl, _, rfl⟩ := e
    exact ⟨g, rfl, hlt g rfl⟩
theorem SOwn.cap {w : World} {base : Nat} {T : TypeId} {A : Option Addr} {cap : Nat} {xs : List α} (h : SOwn E w base T A cap xs) : xs.length ≤ cap ∧ cap ≤ maxLen := by
  rcases h.2 with ⟨e, e0⟩ | ⟨g, cap', cur, e, hb, hg, h1, h2, _⟩
  · simp only [Value.slice.injEq] at e; have := e.2.2; simp [maxLen]; omega
  · simp only [Value.slice.injEq] at e; obtain ⟨_, _, rfl⟩ := e; exact ⟨h1, h2⟩
theorem SOwn.next {w w' : World} {base : Nat} {T : TypeId} {A : Option Addr} {cap : Nat} {xs : List α} (h : SOwn E w base T A cap xs) (hx : Below w.heap.size w w') : SOwn E w' base T A cap xs :=
  World.ownsRow.kept (row := none) h ⟨hx.os, hx.tape, hx.output, hx.size, fun k hk _ => hx.block k hk⟩ (by cases h' : Value.ownBlock (.slice A xs.length cap) <;> simp)
theorem SOwn.alloc {w : World} {base : Nat} {T : TypeId} {A : Option Addr} {cap : Nat} {xs : List α} (h : SOwn E w base T A cap xs) (o : Obj) : SOwn E (w.alloc o) base T A cap xs := World.ownsRow.alloc h o
theorem SOwn.drew {w : World} {base : Nat} {T : TypeId} {A : Option Addr} {cap : Nat} {xs : List α} (h : SOwn E w base T A cap xs) : SOwn E w.drew base T A cap xs := World.ownsRow.drew h
theorem SOwn.mono {w : World} {base base' : Nat} {T : TypeId} {A : Option Addr} {cap : Nat} {xs : List α} (h : SOwn E w base T A cap xs) (hb : base' ≤ base) : SOwn E w base' T A cap xs := by
  refine ⟨h.1, ?_⟩
  rcases h.2 with h2 | ⟨g, cap', cur, e, hb2, h3⟩
  · exact .inl h2
  · exact .inr ⟨g, cap', cur, e, Nat.le_trans hb hb2, h3⟩
theorem SOwn.cell {w : World} {base g cap : Nat} {T : TypeId} {xs : List α} (h : SOwn E w base T (some ⟨g, 0, none⟩) cap xs) (i : Nat) (hi : i < xs.length) (j : Nat) (v : Value) (hv : (E.enc xs[i])[j]? = some v) : w.cell? ⟨g, i * E.k + j, none⟩ = some v := by
  have hj : j < E.k := by
    have := (List.getElem?_eq_some_iff.1 hv).1
    rwa [E.len] at this
  have hb : i * E.k + E.k ≤ xs.length * E.k := by rw [← Nat.succ_mul]; exact Nat.mul_le_mul_right _ hi
  have h1 := World.ownsRow.cellAt h (i * E.k + j) (by omega)
  rw [h1]; exact E.flat_get xs i hi hv
theorem SOwn.frozen {w : World} {base g cap : Nat} {T : TypeId} {xs : List α} (h : SOwn E w base T (some ⟨g, 0, none⟩) cap xs) (i : Nat) : w.frozen? ⟨g, i, none⟩ = false := World.ownsRow.frozenAt h i
theorem SOwn.row {w : World} {base : Nat} {T : TypeId} {A : Option Addr} {cap : Nat} {xs : List α} (h : SOwn E w base T A cap xs) : SRow E w A xs := by
  rcases h.form with ⟨_, rfl, _⟩ | ⟨g, rfl, hb, hg⟩
  · exact .inl rfl
  · exact .inr ⟨g, 0, rfl, fun i hi j v hv => by rw [Nat.zero_add]; exact h.cell i hi j v hv⟩
theorem SOwn.at_ {w : World} {base : Nat} {T : TypeId} {A : Option Addr} {cap : Nat} {xs : List α} (h : SOwn E w base T A cap xs) {i : Nat} (hi : i < xs.length) :
    ∃ g, A = some ⟨g, 0, none⟩ ∧ base ≤ g ∧ g < w.heap.size := by
  rcases h.form with ⟨_, rfl, _⟩ | ⟨g, rfl, hb, hg⟩
  · simp at hi
  · exact ⟨g, rfl, hb, hg⟩
theorem SOwn.grown_far {w w' : World} {base : Nat} {T : TypeId} {A : Option Addr} {cap : Nat} {xs : List α} {row : Option Nat} (h : SOwn E w base T A cap xs) (hg : w.grownBy w' row) (hne : ∀ g, A = some ⟨g, 0, none⟩ → row ≠ some g) : SOwn E w' base T A cap xs := by
  refine World.ownsRow.kept h hg ?_
  rcases h.form with ⟨rfl, _⟩ | ⟨g, rfl, _⟩
  · exact .inl rfl
  · exact .inr (by simp [Value.ownBlock]; exact fun e => hne g rfl e.symm)
theorem SOwn.snoc {w' : World} {base cap' g : Nat} {T : TypeId} {xs : List α} {x : α} (h : w'.ownsRow base T E.k (.slice (some ⟨g, 0, none⟩) (xs.length + 1) cap') (xs.length + 1) (E.flat xs ++ E.enc x)) : SOwn E w' base T (some ⟨g, 0, none⟩) cap' (xs ++ [x]) := by
  unfold SOwn; rw [E.flat_snoc] at h; simpa using h
/-- Behind an append to a row of the call's own: old memory is kept. -/
theorem SOwn.below_grown {w0 w w' : World} {T : TypeId} {A : Option Addr} {cap n : Nat} {xs : List α} (h : SOwn E w w0.heap.size T A cap xs) (hB : Below w0.heap.size w0 w) (hg : w.grownBy w' (Value.ownBlock (.slice A n cap))) : Below w0.heap.size w0 w' := by
  refine hB.grown hg hB.size (fun j hj => ?_)
  rcases h.form with ⟨rfl, _⟩ | ⟨g, rfl, hb, _⟩
  · simp [Value.ownBlock] at hj
  · simp [Value.ownBlock] at hj; omega
theorem SOwn.of_raw {w : World} {base n cap : Nat} {T : TypeId} {A : Option Addr} {L : List Value} {ys : List α} (h : w.ownsRow base T E.k (.slice A n cap) n L) (e : L = E.flat ys) (hn : ys.length = n) : SOwn E w base T A cap ys := by
  unfold SOwn; rw [hn, ← e]; exact h
/-- A new block of one element, as the cells behind its address. -/
theorem new_enc (w : World) (x : α) (T : TypeId) : ∀ j u, (E.enc x)[j]? = some u → (w.alloc (.cells (E.enc x).toArray T)).cell? ((⟨w.heap.size, 0, none⟩ : Addr).add j) = some u :=
  World.news_of_block (cs := (E.enc x).toArray) (blk_new w _)
theorem new_enc1 (w : World) (o : Obj) (x : α) (T : TypeId) : ∀ j u, (E.enc x)[j]? = some u → ((w.alloc o).alloc (.cells (E.enc x).toArray T)).cell? ((⟨w.heap.size + 1, 0, none⟩ : Addr).add j) = some u := by
  have h := new_enc (E := E) (w.alloc o) x T
  have e : (w.alloc o).heap.size = w.heap.size + 1 := by simp
  rw [e] at h; exact h
theorem mod_mul_cells (z : List Value) (hk : 0 < z.length) (n : Nat) : madeCells z.toArray (n * z.length) = ((List.replicate n z).flatten).toArray := by
  apply Array.ext
  · simp [madeCells]
  · intro i h1 h2
    have hi : i < n * z.length := by simpa [madeCells] using h1
    have hm := Nat.mod_lt i hk
    have key : ∀ (n i : Nat), i < n * z.length → ((List.replicate n z).flatten)[i]? = z[i % z.length]? := by
      intro n
      induction n with
      | zero => intro i h; simp at h
      | succ n ih =>
        intro i h
        rw [List.replicate_succ, List.flatten_cons]
        by_cases hl : i < z.length
        · rw [List.getElem?_append_left hl, Nat.mod_eq_of_lt hl]
        · rw [List.getElem?_append_right (by omega), ih (i - z.length) (by rw [Nat.add_mul] at h; omega), Nat.mod_eq_sub_mod (by omega : z.length ≤ i)]
    have e := key n i hi
    rw [List.getElem?_eq_getElem (by simpa using h2), List.getElem?_eq_getElem hm] at e
    simp [madeCells]
    have e' := Option.some.inj e
    rw [e']
    simp [List.getElem?_eq_getElem hm]
/-- make([]T, n): a block of n zero elements. -/
theorem wpList_make_structs {P : Program} (w : World) {ops : Array Oper} {rest : List Oper} {o : Oper} {a : Act} {Q : Exit → Act → World → Prop} (E : Enc α) (z0 : α)
    (hg : o.guard = none) (l c : Operand) (t : TypeId) (hop : o.op = Op.makeSlice t l c)
    (e : TypeId) (i : TypeInfo) (z : Value) (ht : P.underlying t = some (.slice e)) (hi : P.info? e = some i) (hz : i.zero = some z) (hsize : i.size = E.k) (hz2 : z.cells = (E.enc z0).toArray)
    (kl kc : IntKind) (n : Nat) (hl : a.eval l = .int kl (n : Int)) (hc : a.eval c = .int kc (n : Int)) (hbytes : i.bytes * n ≤ 281474976710656) (h63 : n ≤ 9223372036854775807)
    (hK : wpList P ops Q rest (a.put o.dst (.slice (some ⟨w.heap.size, 0, none⟩) n n)) (w.alloc (.cells (E.flat (List.replicate n z0)).toArray e))) :
    wpList P ops Q (o :: rest) a w := by
  refine wpList_plain hg fun K hK' => ?_
  have hb' : (i.bytes : Int) * (n : Int) ≤ 281474976710656 := by
    have h : ((i.bytes * n : Nat) : Int) ≤ 281474976710656 := by omega
    rwa [Int.natCast_mul] at h
  have hrun := run_make (P := P) w t e i z ht hi hz kl kc n n (by omega) (Int.le_refl _) hb' (by omega)
  have hmade : madeCells z.cells (n * i.size) = (E.flat (List.replicate n z0)).toArray := by
    rw [hz2, hsize, E.flat_rep, ← E.len z0]
    exact mod_mul_cells _ (by rw [E.len]; exact E.pos) n
  simp only [Int.toNat_natCast, hmade] at hrun
  unfold Oper.wp
  simp [execOp, hop, hl, hc, hrun, Result.andThen]
  exact hK' _ _ hK
end
end Go.Proofs.YtbklgpghonigjaaGreat
namespace Go.Proofs.YtbklgpghonigjaaGreat
open Go.ChangeShapes Go.WideShapes Go.ChangeAt Go.RowKit Go.Deep
set_option linter.unusedVariables false
section
variable {H : Type} {enc : TypeId × Value → H} {P : Program} {w : World} {base : Nat} {spare : Nat → Bool} {held : Bool}
end
end Go.Proofs.YtbklgpghonigjaaGreat
namespace Go.Proofs.YtbklgpghonigjaaGreat
open Go.ChangeShapes Go.WideShapes Go.ChangeAt Go.RowKit
theorem ownb3 {w w1 : World} {o o' o'' : Obj} (hb : Below (((w.alloc o).alloc o').alloc o'').heap.size (((w.alloc o).alloc o').alloc o'') w1) :
    w1.heap[w.heap.size]? = some o ∧ w1.heap[w.heap.size + 1]? = some o' ∧ w1.heap[w.heap.size + 1 + 1]? = some o'' ∧ Below w.heap.size w w1 :=
  ⟨blk_next (blk_old (blk_old (blk_new w o) o') o'') hb, blk_next (blk_old (new2 w o o') o'') hb, blk_next (new3 w o o' o'') hb, bel_next (bel3 w o o' o'') hb⟩
theorem store3_bel {w0 w : World} {C : Nat} (h : Below w0.heap.size w0 w) (hC : w0.heap.size ≤ C) (a b c : Value) : Below w0.heap.size w0 (((w.setCell ⟨C, 0, none⟩ a).setCell ⟨C, 1, none⟩ b).setCell ⟨C, 2, none⟩ c) :=
  (store2_bel h hC a b).setCell (p := ⟨C, 2, none⟩) hC c
theorem blk3_put {w : World} {C : Nat} {x y z a b c : Value} {t : TypeId} (h : w.heap[C]? = some (.cells #[x, y, z] t (0, 0))) : (((w.setCell ⟨C, 0, none⟩ a).setCell ⟨C, 1, none⟩ b).setCell ⟨C, 2, none⟩ c).heap[C]? = some (.cells #[a, b, c] t (0, 0)) := by
  have at_ : ∀ (w : World) (i : Nat) (v : Value) (cs : Array Value), w.heap[C]? = some (.cells cs t (0, 0)) → (w.setCell ⟨C, i, none⟩ v).heap[C]? = some (.cells (cs.setIfInBounds i v) t (0, 0)) := by
    intro w i v cs h; simp [World.setCell, Array.getElem?_modify, h]
  have := at_ _ 2 c _ (at_ _ 1 b _ (at_ _ 0 a _ h))
  rw [this]; simp
end Go.Proofs.YtbklgpghonigjaaGreat
namespace Go.Proofs.YtbklgpghonigjaaGreat
def sin0 (x : Int) : Int := (8000 * (x * (180 - x)) + 40500 - x * (180 - x)) / (2 * (40500 - x * (180 - x)))
theorem sin0_eq (x : Int) : sin0 x = (2 * (4000 * (x * (180 - x))) + (40500 - x * (180 - x))) / (2 * (40500 - x * (180 - x))) := by unfold sin0; congr 1; omega
def sinT (t : Int) : Int := if 180 < t then -sin0 (t - 180) else sin0 t
def sinI (a : Int) : Int := sinT (a % 360)
def cosI (a : Int) : Int := sinT ((a % 360 + 90) % 360)
/-- A fact of all angles of a whole turn, by looking. -/
theorem all360 {p : Int → Bool} (h : (List.range 360).all (fun k => p (k : Int)) = true) (t : Int) (h0 : 0 ≤ t) (h1 : t < 360) : p t = true := by
  have := List.all_eq_true.1 h t.toNat (by rw [List.mem_range]; omega)
  rwa [show ((t.toNat : Nat) : Int) = t by omega] at this
theorem mod360 (a : Int) : 0 ≤ a % 360 ∧ a % 360 < 360 := by omega
def SinFacts (t : Int) : Prop :=
  (-1000 ≤ sinT t ∧ sinT t ≤ 1000 ∧ sinT ((t + 180) % 360) = -sinT t ∧ sinT ((180 - t) % 360) = sinT t ∧ (t < 90 → sinT t ≤ sinT ((t + 1) % 360)) ∧
    sinT (((-t) % 360 + 90) % 360) = sinT ((t + 90) % 360) ∧ sinT (((t + 180) % 360 + 90) % 360) = -sinT ((t + 90) % 360) ∧
    990000 < sinT ((t + 90) % 360) * sinT ((t + 90) % 360) + sinT t * sinT t ∧ sinT ((t + 90) % 360) * sinT ((t + 90) % 360) + sinT t * sinT t < 1010000 ∧
    ¬ (sinT ((t + 90) % 360) = 0 ∧ sinT t = 0))
instance (t : Int) : Decidable (SinFacts t) := by unfold SinFacts; infer_instance
def sinFacts (t : Int) : Bool := decide (SinFacts t)
theorem sin_facts (t : Int) (h0 : 0 ≤ t) (h1 : t < 360) : sinFacts t = true := all360 (p := sinFacts) (by decide +kernel) t h0 h1
theorem sin_facts' (a : Int) : SinFacts (a % 360) := of_decide_eq_true (sin_facts (a % 360) (mod360 a).1 (mod360 a).2)
theorem sin_bd (a : Int) : -1000 ≤ sinI a ∧ sinI a ≤ 1000 := by have h := sin_facts' a; exact ⟨h.1, h.2.1⟩
theorem cos_bd (a : Int) : -1000 ≤ cosI a ∧ cosI a ≤ 1000 := by have h := sin_facts' (a % 360 + 90); exact ⟨h.1, h.2.1⟩
theorem cos_neg (a : Int) : cosI (-a) = cosI a := by
  have h := (sin_facts' a).2.2.2.2.2.1
  unfold cosI; rw [← h]; congr 1; omega
theorem sin_mod (a : Int) : sinI (a % 360) = sinI a := by unfold sinI; congr 1; omega
theorem cos_eq (a : Int) : cosI a = sinI (a % 360 + 90) := by unfold cosI sinI; rfl
theorem p_bd (x : Int) (h0 : 0 ≤ x) (h1 : x ≤ 180) : 0 ≤ x * (180 - x) ∧ x * (180 - x) ≤ 8100 := by
  constructor
  · exact Int.mul_nonneg h0 (by omega)
  · have e : x * (180 - x) = 8100 - (x - 90) * (x - 90) := by grind
    have : 0 ≤ (x - 90) * (x - 90) := by
      rcases Int.le_total 0 (x - 90) with h | h
      · exact Int.mul_nonneg h h
      · exact Int.mul_nonneg_of_nonpos_of_nonpos h h
    omega
end Go.Proofs.YtbklgpghonigjaaGreat
namespace Go.Proofs.YtbklgpghonigjaaGreat
open Go.ChangeShapes Go.WideShapes Go.ChangeAt Go.RowKit
set_option linter.unusedSimpArgs false
set_option linter.unusedVariables false
theorem turn_eq (a : Int) : (wrap64 (a.tmod 360 + 360)).tmod 360 = a % 360 := by
  have h1 := Int.tmod_add_mul_tdiv a 360
  have h2 := Int.tmod_lt_of_pos a (b := 360) (by omega)
  have h3 := Int.lt_tmod_of_pos a (b := 360) (by omega)
  rw [IntWalk.wrap64_in _ (by omega), Int.tmod_eq_emod_of_nonneg (by omega)]
  omega
theorem sTurn_any (a : Int) (w : World) : Calls Tryz.prog 130 #[.int .i64 a] w fun e w' => e = .returned (.int .i64 (a % 360)) ∧ w = w' := by
  go_enter Tryz.func130, Tryz.ntmps130
  go_wp2
  go_ret
  exact ⟨ret_int (turn_eq a), rfl⟩
theorem iTurn_any (a : Int) (w : World) : Calls Tryz.prog 145 #[.int .i64 a] w fun e w' => e = .returned (.int .i64 (a % 360)) ∧ w = w' := by
  go_enter Tryz.func145, Tryz.ntmps145
  go_wp2
  go_ret
  exact ⟨ret_int (turn_eq a), rfl⟩
theorem s2Sine_any (x : Int) (w : World) (h0 : 0 ≤ x) (h1 : x ≤ 180) : Calls Tryz.prog 142 #[.int .i64 x] w fun e w' => e = .returned (.int .i64 (sin0 x)) ∧ w = w' := by
  have hp := p_bd x h0 h1
  go_enter Tryz.func142, Tryz.ntmps142
  go_wp2
  go_ret
  exact ⟨ret_int rfl, rfl⟩
theorem tmod_bd (n b : Int) (hb : 0 < b) (hb1 : b ≤ 4000000000000000000) : -9000000000000000000 ≤ n.tmod b ∧ n.tmod b ≤ 9000000000000000000 := by
  have h1 := Int.tmod_lt_of_pos n hb
  have h2 := Int.lt_tmod_of_pos n hb
  omega
theorem tdiv_bd (n b : Int) (hb : 0 < b) (h0 : -9000000000000000000 ≤ n) (h1 : n ≤ 9000000000000000000) : -9000000000000000000 ≤ n.tdiv b ∧ n.tdiv b ≤ 9000000000000000000 := by
  have := Int.natAbs_tdiv_le_natAbs n b
  omega
theorem tdiv_dn (n b : Int) (hb : 0 < b) (h0 : -9000000000000000000 ≤ n) (h1 : n ≤ 9000000000000000000) (hn : n.tmod b < 0) : n.tdiv b - 1 = n / b ∧ -9000000000000000000 ≤ n.tdiv b ∧ n.tdiv b ≤ 9000000000000000000 := by
  refine ⟨?_, tdiv_bd n b hb h0 h1⟩
  have e1 := Int.mul_tdiv_add_tmod n b
  have e2 := Int.lt_tmod_of_pos n hb
  have e3 : n = b * (n.tdiv b - 1) + (n.tmod b + b) := by rw [Int.mul_sub]; omega
  symm
  exact ((Int.ediv_emod_unique (a := n) (b := b) (r := n.tmod b + b) (q := n.tdiv b - 1) hb).2 ⟨by omega, by omega, by omega⟩).1
theorem tdiv_up (n b : Int) (hb : 0 < b) (h0 : -9000000000000000000 ≤ n) (h1 : n ≤ 9000000000000000000) (hn : ¬ n.tmod b < 0) : n.tdiv b = n / b ∧ -9000000000000000000 ≤ n.tdiv b ∧ n.tdiv b ≤ 9000000000000000000 := by
  refine ⟨?_, tdiv_bd n b hb h0 h1⟩
  have e1 := Int.mul_tdiv_add_tmod n b
  have e2 := Int.tmod_lt_of_pos n hb
  symm
  exact ((Int.ediv_emod_unique (a := n) (b := b) (r := n.tmod b) (q := n.tdiv b) hb).2 ⟨by omega, by omega, by omega⟩).1
/-- Division rounded down. -/
theorem qd_any (n b : Int) (w : World) (hb : 0 < b) (hb1 : b ≤ 4000000000000000000) (h0 : -9000000000000000000 ≤ n) (h1 : n ≤ 9000000000000000000) : Calls Tryz.prog 137 #[.int .i64 n, .int .i64 b] w fun e w' => e = .returned (.int .i64 (n / b)) ∧ w = w' := by
  have e1 := Int.mul_ediv_add_emod n b
  have e2 := Int.emod_nonneg n (show b ≠ 0 by omega)
  have e3 := Int.emod_lt_of_pos n hb
  have hb0 : b ≠ 0 := by omega
  by_cases hn : n.tmod b < 0
  · have hq : n.tdiv b - 1 = n / b ∧ -9000000000000000000 ≤ n.tdiv b ∧ n.tdiv b ≤ 9000000000000000000 := tdiv_dn n b hb h0 h1 hn
    have hr : -9000000000000000000 ≤ n.tmod b ∧ n.tmod b ≤ 9000000000000000000 := tmod_bd n b hb hb1
    obtain ⟨hq1, q0, q1⟩ := hq
    clear e1 e2 e3
    go_enter Tryz.func137, Tryz.ntmps137
    go_wp2
    go_ret
    exact ⟨rfl, rfl⟩
  · have hq : n.tdiv b = n / b ∧ -9000000000000000000 ≤ n.tdiv b ∧ n.tdiv b ≤ 9000000000000000000 := tdiv_up n b hb h0 h1 hn
    have hr : -9000000000000000000 ≤ n.tmod b ∧ n.tmod b ≤ 9000000000000000000 := tmod_bd n b hb hb1
    obtain ⟨hq1, q0, q1⟩ := hq
    clear e1 e2 e3
    go_enter Tryz.func137, Tryz.ntmps137
    go_wp2
    go_ret
    exact ⟨rfl, rfl⟩
def nearI (n b : Int) : Int := (2 * n + b) / (2 * b)
theorem near_any (n b : Int) (w : World) (hb : 0 < b) (hb1 : b ≤ 1000000000000 ) (h0 : -1000000000000000000 ≤ n) (h1 : n ≤ 1000000000000000000) : Calls Tryz.prog 136 #[.int .i64 n, .int .i64 b] w fun e w' => e = .returned (.int .i64 (nearI n b)) ∧ w = w' := by
  go_enter Tryz.func136, Tryz.ntmps136
  go_wp2_with fail
  refine (qd_any _ _ _ (by omega) (by omega) (by omega) (by omega)).mono ?_; rintro e w1 ⟨rfl, rfl⟩
  go_wp2
  go_ret
  exact ⟨ret_int rfl, rfl⟩
theorem near_sin (x : Int) : nearI (4000 * (x * (180 - x))) (40500 - x * (180 - x)) = sin0 x := (sin0_eq x).symm
theorem i0Sine_any (x : Int) (w : World) (h0 : 0 ≤ x) (h1 : x ≤ 180) : Calls Tryz.prog 133 #[.int .i64 x] w fun e w' => e = .returned (.int .i64 (sin0 x)) ∧ w = w' := by
  have hp := p_bd x h0 h1
  have hx : x % 360 = x := by omega
  go_enter Tryz.func133, Tryz.ntmps133
  go_wp2_with fail
  refine (iTurn_any _ _).mono ?_; rintro e w1 ⟨rfl, rfl⟩
  rw [hx]
  clear hx
  go_wp2_with fail
  refine (near_any _ _ _ (by omega) (by omega) (by omega) (by omega)).mono ?_; rintro e w1 ⟨rfl, rfl⟩
  go_wp2
  go_ret
  exact ⟨ret_int (near_sin x), rfl⟩
theorem iSine_any (x : Int) (w : World) : Calls Tryz.prog 133 #[.int .i64 x] w fun e w' => e = .returned (.int .i64 (sinI x)) ∧ w = w' := by
  have hb := mod360 x
  generalize ht : x % 360 = t at hb
  have hs : sinI x = sinT t := by unfold sinI; rw [ht]
  rw [hs]
  clear hs
  have HT := Lib.hid ht
  clear ht
  by_cases h : 180 < t
  · have hp := p_bd (t - 180) (by omega) (by omega)
    have hsb : -1000 ≤ sin0 (t - 180) ∧ sin0 (t - 180) ≤ 1000 := by
      have := sin_bd t
      unfold sinI sinT at this
      rw [show t % 360 = t by omega, if_pos h] at this; omega
    go_enter Tryz.func133, Tryz.ntmps133
    go_wp2_with fail
    refine (iTurn_any _ _).mono ?_; rintro e w1 ⟨rfl, rfl⟩
    rw [HT.out]
    go_wp2_with fail
    refine (i0Sine_any _ _ (by omega) (by omega)).mono ?_; rintro e w1 ⟨rfl, rfl⟩
    go_wp2
    go_ret
    exact ⟨ret_int (by unfold sinT; rw [if_pos h]), rfl⟩
  · have hp := p_bd t (by omega) (by omega)
    go_enter Tryz.func133, Tryz.ntmps133
    go_wp2_with fail
    refine (iTurn_any _ _).mono ?_; rintro e w1 ⟨rfl, rfl⟩
    rw [HT.out]
    go_wp2_with fail
    refine (near_any _ _ _ (by omega) (by omega) (by omega) (by omega)).mono ?_; rintro e w1 ⟨rfl, rfl⟩
    go_wp2
    go_ret
    exact ⟨ret_int (by unfold sinT; rw [if_neg (by omega)]; exact near_sin t), rfl⟩
theorem sSine_any (x : Int) (w : World) : Calls Tryz.prog 128 #[.int .i64 x] w fun e w' => e = .returned (.int .i64 (sinI x)) ∧ w = w' := by
  have hb := mod360 x
  generalize ht : x % 360 = t at hb
  have hs : sinI x = sinT t := by unfold sinI; rw [ht]
  rw [hs]
  clear hs
  have HT := Lib.hid ht
  clear ht
  by_cases h : 180 < t
  · have hp := p_bd (t - 180) (by omega) (by omega)
    have hsb : -1000 ≤ sin0 (t - 180) ∧ sin0 (t - 180) ≤ 1000 := by
      have := sin_bd t
      unfold sinI sinT at this
      rw [show t % 360 = t by omega, if_pos h] at this; omega
    go_enter Tryz.func128, Tryz.ntmps128
    go_wp2_with fail
    refine (sTurn_any _ _).mono ?_; rintro e w1 ⟨rfl, rfl⟩
    rw [HT.out]
    go_wp2_with fail
    refine (s2Sine_any _ _ (by omega) (by omega)).mono ?_; rintro e w1 ⟨rfl, rfl⟩
    go_wp2
    go_ret
    exact ⟨ret_int (by unfold sinT; rw [if_pos h]), rfl⟩
  · go_enter Tryz.func128, Tryz.ntmps128
    go_wp2_with fail
    refine (sTurn_any _ _).mono ?_; rintro e w1 ⟨rfl, rfl⟩
    rw [HT.out]
    go_wp2_with fail
    refine (s2Sine_any _ _ (by omega) (by omega)).mono ?_; rintro e w1 ⟨rfl, rfl⟩
    go_wp2
    go_ret
    exact ⟨ret_int (by unfold sinT; rw [if_neg (by omega)]), rfl⟩
theorem iCos_any (x : Int) (w : World) : Calls Tryz.prog 134 #[.int .i64 x] w fun e w' => e = .returned (.int .i64 (cosI x)) ∧ w = w' := by
  have hb := mod360 x
  have HC := Lib.hid (cos_eq x)
  go_enter Tryz.func134, Tryz.ntmps134
  go_wp2_with fail
  refine (iTurn_any _ _).mono ?_; rintro e w1 ⟨rfl, rfl⟩
  go_wp2_with fail
  refine (iSine_any _ _).mono ?_; rintro e w1 ⟨rfl, rfl⟩
  go_wp2
  go_ret
  exact ⟨ret_int HC.out.symm, rfl⟩
theorem sCos_any (x : Int) (w : World) : Calls Tryz.prog 129 #[.int .i64 x] w fun e w' => e = .returned (.int .i64 (cosI x)) ∧ w = w' := by
  have hb := mod360 x
  have HC := Lib.hid (cos_eq x)
  go_enter Tryz.func129, Tryz.ntmps129
  go_wp2_with fail
  refine (sTurn_any _ _).mono ?_; rintro e w1 ⟨rfl, rfl⟩
  go_wp2_with fail
  refine (sSine_any _ _).mono ?_; rintro e w1 ⟨rfl, rfl⟩
  go_wp2
  go_ret
  exact ⟨ret_int HC.out.symm, rfl⟩
end Go.Proofs.YtbklgpghonigjaaGreat
