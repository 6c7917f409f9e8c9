/- Slices of structs whose fields are of one cell each: how they lie in memory, rows of the call's own; for every number of cells. -/
import Derived.Test.YtigndpajpofofaaHlp
import Derived.Deep.AppendLies
import Derived.OwnWalk
import Derived.Laws.MakeOwn
namespace Go.Proofs.Ytigndpajpofofaa
open Go.ChangeShapes Go.WideShapes Go.ChangeAt Go.RowKit
set_option linter.unusedSimpArgs false
set_option linter.unusedVariables false

/-- How an element stands in memory: k cells. -/
structure Enc (α : Type) where
  k : Nat
  enc : α → List Value
  len : ∀ x, (enc x).length = k
  one : ∀ x, ∀ u ∈ enc x, u.oneCell' = true
  pos : 0 < k
section
variable {α : Type} (E : Enc α)
def Enc.flat (xs : List α) : List Value := xs.flatMap E.enc
theorem Enc.flat_nil : E.flat [] = [] := rfl
theorem Enc.flat_cons (x : α) (xs : List α) : E.flat (x :: xs) = E.enc x ++ E.flat xs := by simp [Enc.flat]
theorem Enc.flat_len : ∀ xs : List α, (E.flat xs).length = xs.length * E.k
  | [] => by simp [Enc.flat_nil]
  | x :: xs => by rw [E.flat_cons, List.length_append, E.len, Enc.flat_len xs, List.length_cons, Nat.add_mul]; omega
theorem Enc.flat_snoc (xs : List α) (x : α) : E.flat xs ++ E.enc x = E.flat (xs ++ [x]) := by simp [Enc.flat]
theorem Enc.flat_app (xs ys : List α) : E.flat xs ++ E.flat ys = E.flat (xs ++ ys) := by simp [Enc.flat]
theorem Enc.flat_one (xs : List α) : ∀ u ∈ E.flat xs, u.oneCell' = true := by
  intro u hu
  obtain ⟨x, _, hx⟩ := List.mem_flatMap.1 hu
  exact E.one x u hx
theorem Enc.flat_at : ∀ (xs : List α) (i : Nat) (h : i < xs.length) (j : Nat), j < E.k → (E.flat xs)[i * E.k + j]? = (E.enc xs[i])[j]?
  | [], i, h, _, _ => by simp at h
  | x :: xs, 0, _, j, hj => by rw [E.flat_cons, Nat.zero_mul, Nat.zero_add, List.getElem?_append_left (by rw [E.len]; exact hj)]; rfl
  | x :: xs, i + 1, h, j, hj => by
    rw [E.flat_cons, List.getElem?_append_right (by rw [E.len, Nat.add_mul]; omega), E.len, show (i + 1) * E.k + j - E.k = i * E.k + j by rw [Nat.add_mul]; omega]
    exact Enc.flat_at xs i (by simpa using h) j hj
theorem Enc.flat_get (xs : List α) (i : Nat) (h : i < xs.length) {j : Nat} {v : Value} (hv : (E.enc xs[i])[j]? = some v) : (E.flat xs)[i * E.k + j]? = some v := by
  have hj : j < E.k := by
    have := (List.getElem?_eq_some_iff.1 hv).1
    rwa [E.len] at this
  rw [E.flat_at xs i h j hj]; exact hv
theorem Enc.flat_rep (z : α) : ∀ n : Nat, E.flat (List.replicate n z) = (List.replicate n (E.enc z)).flatten
  | 0 => rfl
  | n + 1 => by rw [List.replicate_succ, E.flat_cons, Enc.flat_rep z n, List.replicate_succ, List.flatten_cons]
/-- Cells of a list, laid one behind the other. -/
def listSet (l : List Value) (o : Nat) : List Value → List Value
  | [] => l
  | v :: r => listSet (l.set o v) (o + 1) r
theorem listSet_len : ∀ (r l : List Value) (o : Nat), (listSet l o r).length = l.length
  | [], l, o => rfl
  | v :: r, l, o => by unfold listSet; rw [listSet_len r]; simp
theorem listSet_at : ∀ (r l : List Value) (o i : Nat), (listSet l o r)[i]? = if o ≤ i ∧ i < o + r.length ∧ i < l.length then r[i - o]? else l[i]?
  | [], l, o, i => by simp [listSet]; omega
  | v :: r, l, o, i => by
    unfold listSet
    rw [listSet_at r (l.set o v) (o + 1) i]
    simp only [List.length_set, List.length_cons]
    by_cases h1 : o + 1 ≤ i ∧ i < o + 1 + r.length ∧ i < l.length
    · rw [if_pos h1, if_pos (by omega), show i - o = (i - (o + 1)) + 1 by omega, List.getElem?_cons_succ]
    · rw [if_neg h1]
      by_cases h2 : i = o
      · subst h2
        by_cases h3 : i < l.length
        · rw [if_pos (by omega), List.getElem?_set_self h3]; simp
        · rw [if_neg (by omega), List.getElem?_eq_none (by simp; omega), List.getElem?_eq_none (by omega)]
      · rw [if_neg (by omega), List.getElem?_set_ne (by omega)]
theorem Enc.flat_set (xs : List α) (i : Nat) (h : i < xs.length) (x : α) : listSet (E.flat xs) (i * E.k) (E.enc x) = E.flat (xs.set i x) := by
  apply List.ext_getElem?
  intro m
  rw [listSet_at, E.len, E.flat_len]
  have hk := E.pos
  have hlt : i * E.k + E.k ≤ xs.length * E.k := by rw [← Nat.succ_mul]; exact Nat.mul_le_mul_right _ h
  by_cases h1 : i * E.k ≤ m ∧ m < i * E.k + E.k ∧ m < xs.length * E.k
  · rw [if_pos h1]
    have e := E.flat_at (xs.set i x) i (by simpa using h) (m - i * E.k) (by omega)
    rw [show i * E.k + (m - i * E.k) = m by omega] at e
    rw [e, List.getElem_set_self]
  · rw [if_neg h1]
    by_cases h2 : m < xs.length * E.k
    · have hq : m / E.k < xs.length := by rw [Nat.div_lt_iff_lt_mul hk]; exact h2
      have hm : m / E.k * E.k + m % E.k = m := by rw [Nat.mul_comm]; exact Nat.div_add_mod m E.k
      have hr := Nat.mod_lt m hk
      have e1 := E.flat_at xs (m / E.k) hq (m % E.k) hr
      have e2 := E.flat_at (xs.set i x) (m / E.k) (by simpa using hq) (m % E.k) hr
      rw [hm] at e1 e2
      have hne : i ≠ m / E.k := by
        intro e
        apply h1
        rw [← e] at hm
        refine ⟨by omega, by omega, h2⟩
      rw [e1, e2, List.getElem_set_ne hne]
    · rw [List.getElem?_eq_none (by rw [E.flat_len]; omega), List.getElem?_eq_none (by rw [E.flat_len]; simp; omega)]
/-- Cells of a block, stored one behind the other. -/
def setAll (w : World) (g o : Nat) : List Value → World
  | [] => w
  | v :: r => setAll (w.setCell ⟨g, o, none⟩ v) g (o + 1) r
theorem setAll_blk : ∀ (r : List Value) (w : World) (g o : Nat) (T : TypeId) (l : List Value), w.heap[g]? = some (.cells l.toArray T (0, 0)) → (setAll w g o r).heap[g]? = some (.cells (listSet l o r).toArray T (0, 0))
  | [], w, g, o, T, l, h => h
  | v :: r, w, g, o, T, l, h => by
    unfold setAll listSet
    refine setAll_blk r _ g (o + 1) T (l.set o v) ?_
    simp [World.setCell, Array.getElem?_modify, h]
theorem setAll_far : ∀ (r : List Value) (w : World) (g o k : Nat), k ≠ g → (setAll w g o r).heap[k]? = w.heap[k]?
  | [], w, g, o, k, h => rfl
  | v :: r, w, g, o, k, h => by unfold setAll; rw [setAll_far r _ g (o + 1) k h, Below.heap_setCell _ _ _ _ h]
theorem setAll_size : ∀ (r : List Value) (w : World) (g o : Nat), (setAll w g o r).heap.size = w.heap.size
  | [], w, g, o => rfl
  | v :: r, w, g, o => by unfold setAll; rw [setAll_size r]; simp [World.setCell]
theorem setAll_os : ∀ (r : List Value) (w : World) (g o : Nat), (setAll w g o r).os = w.os ∧ (setAll w g o r).tape = w.tape ∧ (setAll w g o r).output = w.output
  | [], w, g, o => ⟨rfl, rfl, rfl⟩
  | v :: r, w, g, o => by unfold setAll; exact setAll_os r _ g (o + 1)
theorem setAll_bel {w0 w : World} {B g : Nat} (r : List Value) (o : Nat) (h : Below B w0 w) (hg : B ≤ g) : Below B w0 (setAll w g o r) :=
  ⟨(setAll_os r w g o).1.trans h.os, (setAll_os r w g o).2.1.trans h.tape, (setAll_os r w g o).2.2.trans h.output, by rw [setAll_size]; exact h.size, fun k hk => by rw [setAll_far r w g o k (by omega)]; exact h.block k hk⟩
theorem setAll_grown {w w' : World} {g : Nat} (r : List Value) (o : Nat) (h : w.grownBy w' (some g)) : w.grownBy (setAll w' g o r) (some g) :=
  ⟨(setAll_os r w' g o).1.trans h.os, (setAll_os r w' g o).2.1.trans h.tape, (setAll_os r w' g o).2.2.trans h.output, by rw [setAll_size]; exact h.size, fun k hk hne => by rw [setAll_far r w' g o k (fun e => hne (by rw [e]))]; exact h.block k hk hne⟩
theorem celS_next {w w' : World} {b o : Nat} {v : Value} (h : w.cell? ⟨b, o, none⟩ = some v) (hw : Below w.heap.size w w') : w'.cell? ⟨b, o, none⟩ = some v := by
  rw [hw.cell (p := ⟨b, o, none⟩) (World.block_lt_of_cell? w _ h)]; exact h
/-- A slice that reads as a list. -/
def SRow (w : World) (A : Option Addr) (xs : List α) : Prop :=
  xs = [] ∨ ∃ b off : Nat, A = some ⟨b, off, none⟩ ∧ ∀ i (h : i < xs.length) (j : Nat) (v : Value), (E.enc xs[i])[j]? = some v → w.cell? ⟨b, off + (i * E.k + j), none⟩ = some v
variable {E}
theorem SRow.nil (w : World) (A : Option Addr) : SRow E w A [] := .inl rfl
theorem enc_first (x : α) : ∃ v, (E.enc x)[0]? = some v := by
  have h1 := E.len x
  have h2 := E.pos
  exact ⟨_, List.getElem?_eq_getElem (by omega)⟩
theorem SRow.at_ {w : World} {A : Option Addr} {xs : List α} (h : SRow E w A xs) {i : Nat} (hi : i < xs.length) :
    ∃ b off : Nat, A = some ⟨b, off, none⟩ ∧ b < w.heap.size ∧ ∀ (j : Nat) (v : Value), (E.enc xs[i])[j]? = some v → w.cell? ⟨b, off + (i * E.k + j), none⟩ = some v := by
  rcases h with rfl | ⟨b, off, rfl, h⟩
  · simp at hi
  · obtain ⟨v, hv⟩ := enc_first (E := E) xs[i]
    exact ⟨b, off, rfl, World.block_lt_of_cell? w _ (h i hi 0 v hv), h i hi⟩
theorem SRow.next {w w' : World} {A : Option Addr} {xs : List α} (h : SRow E w A xs) (hw : Below w.heap.size w w') : SRow E w' A xs := by
  rcases h with rfl | ⟨b, off, rfl, h⟩
  · exact .inl rfl
  · exact .inr ⟨b, off, rfl, fun i hi j v hv => celS_next (h i hi j v hv) hw⟩
variable (E) in
/-- A block that is just the list. -/
def SBlk (w : World) (g : Nat) (T : TypeId) (xs : List α) : Prop := w.heap[g]? = some (.cells (E.flat xs).toArray T (0, 0))
theorem SBlk.cell {w : World} {g : Nat} {T : TypeId} {xs : List α} (h : SBlk E w g T xs) (i : Nat) (hi : i < xs.length) (j : Nat) (v : Value) (hv : (E.enc xs[i])[j]? = some v) : w.cell? ⟨g, i * E.k + j, none⟩ = some v := by
  have h1 := E.flat_get xs i hi hv
  unfold SBlk at h
  simp [World.cell?, h, h1]
theorem SBlk.frozen {w : World} {g : Nat} {T : TypeId} {xs : List α} (h : SBlk E w g T xs) (i : Nat) : w.frozen? ⟨g, i, none⟩ = false := by
  unfold SBlk at h
  simp [World.frozen?, h]
theorem SBlk.lt {w : World} {g : Nat} {T : TypeId} {xs : List α} (h : SBlk E w g T xs) : g < w.heap.size := blk_lt h
theorem SBlk.next {w w' : World} {g : Nat} {T : TypeId} {xs : List α} (h : SBlk E w g T xs) (hw : Below w.heap.size w w') : SBlk E w' g T xs := blk_next h hw
theorem SBlk.set {w : World} {g : Nat} {T : TypeId} {xs : List α} (h : SBlk E w g T xs) (i : Nat) (hi : i < xs.length) (x : α) : SBlk E (setAll w g (i * E.k) (E.enc x)) g T (xs.set i x) := by
  have := setAll_blk (E.enc x) w g (i * E.k) T (E.flat xs) h
  rw [E.flat_set xs i hi x] at this
  exact this
theorem SBlk.row {w : World} {g : Nat} {T : TypeId} {xs : List α} (h : SBlk E w g T xs) : SRow E w (some ⟨g, 0, none⟩) xs :=
  .inr ⟨g, 0, rfl, fun i hi j v hv => by rw [Nat.zero_add]; exact h.cell i hi j v hv⟩
theorem SBlk.grown {w w' : World} {g : Nat} {T : TypeId} {xs : List α} {row : Option Nat} (h : SBlk E w g T xs) (hg : w.grownBy w' row) (hne : row ≠ some g) : SBlk E w' g T xs := by
  unfold SBlk; rw [hg.block g h.lt (fun e => hne e.symm)]; exact h
variable (E) in
/-- A row of the call's own: nil, or a block of its own. -/
def SOwn (w : World) (base : Nat) (T : TypeId) (A : Option Addr) (cap : Nat) (xs : List α) : Prop := w.ownsRow base T E.k (.slice A xs.length cap) xs.length (E.flat xs)
theorem SOwn.nil (w : World) (base : Nat) (T : TypeId) : SOwn E w base T none 0 [] := World.ownsRow_nil w base T E.k
theorem SOwn.empty {w : World} {g : Nat} {T : TypeId} (h : w.heap[g]? = some (.cells #[] T (0, 0))) {base : Nat} (hb : base ≤ g) : SOwn E w base T (some ⟨g, 0, none⟩) 0 [] :=
  ⟨by simp [E.flat_nil], .inr ⟨g, 0, #[], rfl, hb, h, by simp, by simp, by simp, by simp [E.flat_nil]⟩⟩
theorem SOwn.of_blk {w : World} {base g n : Nat} {T : TypeId} {xs : List α} (h : SBlk E w g T xs) (hb : base ≤ g) (hn : xs.length = n) (hm : n ≤ maxLen) : SOwn E w base T (some ⟨g, 0, none⟩) n xs := by
  refine ⟨E.flat_len xs, .inr ⟨g, n, (E.flat xs).toArray, by rw [hn], hb, h, by omega, hm, ?_, ?_⟩⟩
  · simp [E.flat_len, hn]
  · exact List.take_of_length_le (by rw [E.flat_len]; omega)
theorem SOwn.form {w : World} {base : Nat} {T : TypeId} {A : Option Addr} {cap : Nat} {xs : List α} (h : SOwn E w base T A cap xs) : (A = none ∧ xs = [] ∧ cap = 0) ∨ ∃ g, A = some ⟨g, 0, none⟩ ∧ base ≤ g ∧ g < w.heap.size := by
  have hlt := World.ownsRow.lt h
  rcases h.2 with ⟨e, e0⟩ | ⟨g, cap', cur, e, hb, hg, _⟩
  · left
    simp only [Value.slice.injEq] at e
    exact ⟨e.1, List.length_eq_zero_iff.1 e0, e.2.2⟩
  · right
    simp only [Value.slice.injEq] at e
    obtain ⟨rfl, _, rfl⟩ := e
    exact ⟨g, rfl, hlt g rfl⟩
theorem SOwn.cap {w : World} {base : Nat} {T : TypeId} {A : Option Addr} {cap : Nat} {xs : List α} (h : SOwn E w base T A cap xs) : xs.length ≤ cap ∧ cap ≤ maxLen := by
  rcases h.2 with ⟨e, e0⟩ | ⟨g, cap', cur, e, hb, hg, h1, h2, _⟩
  · simp only [Value.slice.injEq] at e; have := e.2.2; simp [maxLen]; omega
  · simp only [Value.slice.injEq] at e; obtain ⟨_, _, rfl⟩ := e; exact ⟨h1, h2⟩
theorem SOwn.next {w w' : World} {base : Nat} {T : TypeId} {A : Option Addr} {cap : Nat} {xs : List α} (h : SOwn E w base T A cap xs) (hx : Below w.heap.size w w') : SOwn E w' base T A cap xs :=
  World.ownsRow.kept (row := none) h ⟨hx.os, hx.tape, hx.output, hx.size, fun k hk _ => hx.block k hk⟩ (by cases h' : Value.ownBlock (.slice A xs.length cap) <;> simp)
theorem SOwn.alloc {w : World} {base : Nat} {T : TypeId} {A : Option Addr} {cap : Nat} {xs : List α} (h : SOwn E w base T A cap xs) (o : Obj) : SOwn E (w.alloc o) base T A cap xs := World.ownsRow.alloc h o
theorem SOwn.drew {w : World} {base : Nat} {T : TypeId} {A : Option Addr} {cap : Nat} {xs : List α} (h : SOwn E w base T A cap xs) : SOwn E w.drew base T A cap xs := World.ownsRow.drew h
theorem SOwn.mono {w : World} {base base' : Nat} {T : TypeId} {A : Option Addr} {cap : Nat} {xs : List α} (h : SOwn E w base T A cap xs) (hb : base' ≤ base) : SOwn E w base' T A cap xs := by
  refine ⟨h.1, ?_⟩
  rcases h.2 with h2 | ⟨g, cap', cur, e, hb2, h3⟩
  · exact .inl h2
  · exact .inr ⟨g, cap', cur, e, Nat.le_trans hb hb2, h3⟩
theorem SOwn.cell {w : World} {base g cap : Nat} {T : TypeId} {xs : List α} (h : SOwn E w base T (some ⟨g, 0, none⟩) cap xs) (i : Nat) (hi : i < xs.length) (j : Nat) (v : Value) (hv : (E.enc xs[i])[j]? = some v) : w.cell? ⟨g, i * E.k + j, none⟩ = some v := by
  have hj : j < E.k := by
    have := (List.getElem?_eq_some_iff.1 hv).1
    rwa [E.len] at this
  have hb : i * E.k + E.k ≤ xs.length * E.k := by rw [← Nat.succ_mul]; exact Nat.mul_le_mul_right _ hi
  have h1 := World.ownsRow.cellAt h (i * E.k + j) (by omega)
  rw [h1]; exact E.flat_get xs i hi hv
theorem SOwn.frozen {w : World} {base g cap : Nat} {T : TypeId} {xs : List α} (h : SOwn E w base T (some ⟨g, 0, none⟩) cap xs) (i : Nat) : w.frozen? ⟨g, i, none⟩ = false := World.ownsRow.frozenAt h i
theorem SOwn.row {w : World} {base : Nat} {T : TypeId} {A : Option Addr} {cap : Nat} {xs : List α} (h : SOwn E w base T A cap xs) : SRow E w A xs := by
  rcases h.form with ⟨_, rfl, _⟩ | ⟨g, rfl, hb, hg⟩
  · exact .inl rfl
  · exact .inr ⟨g, 0, rfl, fun i hi j v hv => by rw [Nat.zero_add]; exact h.cell i hi j v hv⟩
theorem SOwn.at_ {w : World} {base : Nat} {T : TypeId} {A : Option Addr} {cap : Nat} {xs : List α} (h : SOwn E w base T A cap xs) {i : Nat} (hi : i < xs.length) :
    ∃ g, A = some ⟨g, 0, none⟩ ∧ base ≤ g ∧ g < w.heap.size := by
  rcases h.form with ⟨_, rfl, _⟩ | ⟨g, rfl, hb, hg⟩
  · simp at hi
  · exact ⟨g, rfl, hb, hg⟩
theorem SOwn.grown_far {w w' : World} {base : Nat} {T : TypeId} {A : Option Addr} {cap : Nat} {xs : List α} {row : Option Nat} (h : SOwn E w base T A cap xs) (hg : w.grownBy w' row) (hne : ∀ g, A = some ⟨g, 0, none⟩ → row ≠ some g) : SOwn E w' base T A cap xs := by
  refine World.ownsRow.kept h hg ?_
  rcases h.form with ⟨rfl, _⟩ | ⟨g, rfl, _⟩
  · exact .inl rfl
  · exact .inr (by simp [Value.ownBlock]; exact fun e => hne g rfl e.symm)
theorem SOwn.snoc {w' : World} {base cap' g : Nat} {T : TypeId} {xs : List α} {x : α} (h : w'.ownsRow base T E.k (.slice (some ⟨g, 0, none⟩) (xs.length + 1) cap') (xs.length + 1) (E.flat xs ++ E.enc x)) : SOwn E w' base T (some ⟨g, 0, none⟩) cap' (xs ++ [x]) := by
  unfold SOwn; rw [E.flat_snoc] at h; simpa using h
/-- Behind an append to a row of the call's own: old memory is kept. -/
theorem SOwn.below_grown {w0 w w' : World} {T : TypeId} {A : Option Addr} {cap n : Nat} {xs : List α} (h : SOwn E w w0.heap.size T A cap xs) (hB : Below w0.heap.size w0 w) (hg : w.grownBy w' (Value.ownBlock (.slice A n cap))) : Below w0.heap.size w0 w' := by
  refine hB.grown hg hB.size (fun j hj => ?_)
  rcases h.form with ⟨rfl, _⟩ | ⟨g, rfl, hb, _⟩
  · simp [Value.ownBlock] at hj
  · simp [Value.ownBlock] at hj; omega
theorem raw_next {w w' : World} {base size n : Nat} {T : TypeId} {A : Option Addr} {len cap : Nat} {L : List Value} (h : w.ownsRow base T size (.slice A len cap) n L) (hx : Below w.heap.size w w') : w'.ownsRow base T size (.slice A len cap) n L :=
  World.ownsRow.kept (row := none) h ⟨hx.os, hx.tape, hx.output, hx.size, fun k hk _ => hx.block k hk⟩ (by cases h' : Value.ownBlock (.slice A len cap) <;> simp)
theorem grown_nextS {w w' w2 : World} {row : Option Nat} (h : w.grownBy w' row) (hx : Below w'.heap.size w' w2) : w.grownBy w2 row :=
  ⟨hx.os.trans h.os, hx.tape.trans h.tape, hx.output.trans h.output, Nat.le_trans h.size hx.size, fun k hk hne => (hx.block k (Nat.lt_of_lt_of_le hk h.size)).trans (h.block k hk hne)⟩
theorem grown_cellS {w w' : World} {g i : Nat} (h : w.grownBy w' (some g)) (v : Value) : w.grownBy (w'.setCell ⟨g, i, none⟩ v) (some g) := setAll_grown [v] i h
theorem setAll_raw : ∀ (r : List Value) (w : World) (base size n g o : Nat) (T : TypeId) (cap : Nat) (L : List Value), w.ownsRow base T size (.slice (some ⟨g, 0, none⟩) n cap) n L → (setAll w g o r).ownsRow base T size (.slice (some ⟨g, 0, none⟩) n cap) n (listSet L o r)
  | [], w, base, size, n, g, o, T, cap, L, h => h
  | v :: r, w, base, size, n, g, o, T, cap, L, h => by
    unfold setAll listSet
    exact setAll_raw r _ base size n g (o + 1) T cap _ (World.ownsRow.stored h o v).1
theorem SOwn.of_raw {w : World} {base n cap : Nat} {T : TypeId} {A : Option Addr} {L : List Value} {ys : List α} (h : w.ownsRow base T E.k (.slice A n cap) n L) (e : L = E.flat ys) (hn : ys.length = n) : SOwn E w base T A cap ys := by
  unfold SOwn; rw [hn, ← e]; exact h
theorem SOwn.set {w : World} {base g cap : Nat} {T : TypeId} {xs : List α} (h : SOwn E w base T (some ⟨g, 0, none⟩) cap xs) (i : Nat) (hi : i < xs.length) (x : α) : SOwn E (setAll w g (i * E.k) (E.enc x)) base T (some ⟨g, 0, none⟩) cap (xs.set i x) := by
  have := setAll_raw (E.enc x) w base E.k xs.length g (i * E.k) T cap (E.flat xs) h
  rw [E.flat_set xs i hi x] at this
  unfold SOwn
  rw [List.length_set]; exact this
/-- A list of which the first k places are marked. -/
def markS (f : Nat → α) (n : Nat) : List α := (List.range n).map f
theorem markS_len (f : Nat → α) (n : Nat) : (markS f n).length = n := by simp [markS]
theorem markS_at (f : Nat → α) (n i : Nat) (h : i < (markS f n).length) : (markS f n)[i] = f i := by simp [markS]
def markToS (f : Nat → α) (xs : List α) (k : Nat) : List α := markS f k ++ xs.drop k
theorem markToS_len (f : Nat → α) (xs : List α) {k : Nat} (hk : k ≤ xs.length) : (markToS f xs k).length = xs.length := by simp [markToS, markS_len]; omega
theorem markToS_next (f : Nat → α) (xs : List α) {k : Nat} (hk : k < xs.length) : (markToS f xs k).set k (f k) = markToS f xs (k + 1) := by
  unfold markToS
  rw [List.set_append_right _ _ (by simp [markS_len]), List.drop_eq_getElem_cons hk, markS_len, Nat.sub_self, List.set_cons_zero]
  simp [markS, List.range_succ]
theorem markToS_at (f : Nat → α) (xs : List α) {k : Nat} (hk : k < xs.length) (h : k < (markToS f xs k).length) : (markToS f xs k)[k] = xs[k] := by
  simp only [markToS]
  rw [List.getElem_append_right (by simp [markS_len])]
  simp [markS_len]
theorem markToS_zero (f : Nat → α) (xs : List α) : markToS f xs 0 = xs := by simp [markToS, markS]
theorem markToS_all (f : Nat → α) (xs : List α) : markToS f xs xs.length = markS f xs.length := by simp [markToS]
/-- A new block of one element, as the cells behind its address. -/
theorem new_enc (w : World) (x : α) (T : TypeId) : ∀ j u, (E.enc x)[j]? = some u → (w.alloc (.cells (E.enc x).toArray T)).cell? ((⟨w.heap.size, 0, none⟩ : Addr).add j) = some u :=
  World.news_of_block (cs := (E.enc x).toArray) (blk_new w _)
theorem new_enc1 (w : World) (o : Obj) (x : α) (T : TypeId) : ∀ j u, (E.enc x)[j]? = some u → ((w.alloc o).alloc (.cells (E.enc x).toArray T)).cell? ((⟨w.heap.size + 1, 0, none⟩ : Addr).add j) = some u := by
  have h := new_enc (E := E) (w.alloc o) x T
  have e : (w.alloc o).heap.size = w.heap.size + 1 := by simp
  rw [e] at h; exact h
theorem mod_mul_cells (z : List Value) (hk : 0 < z.length) (n : Nat) : madeCells z.toArray (n * z.length) = ((List.replicate n z).flatten).toArray := by
  apply Array.ext
  · simp [madeCells]
  · intro i h1 h2
    have hi : i < n * z.length := by simpa [madeCells] using h1
    have hm := Nat.mod_lt i hk
    have key : ∀ (n i : Nat), i < n * z.length → ((List.replicate n z).flatten)[i]? = z[i % z.length]? := by
      intro n
      induction n with
      | zero => intro i h; simp at h
      | succ n ih =>
        intro i h
        rw [List.replicate_succ, List.flatten_cons]
        by_cases hl : i < z.length
        · rw [List.getElem?_append_left hl, Nat.mod_eq_of_lt hl]
        · rw [List.getElem?_append_right (by omega), ih (i - z.length) (by rw [Nat.add_mul] at h; omega), Nat.mod_eq_sub_mod (by omega : z.length ≤ i)]
    have e := key n i hi
    rw [List.getElem?_eq_getElem (by simpa using h2), List.getElem?_eq_getElem hm] at e
    simp [madeCells]
    have e' := Option.some.inj e
    rw [e']
    simp [List.getElem?_eq_getElem hm]
/-- make([]T, n): a block of n zero elements. -/
theorem wpList_make_structs {P : Program} (w : World) {ops : Array Oper} {rest : List Oper} {o : Oper} {a : Act} {Q : Exit → Act → World → Prop} (E : Enc α) (z0 : α)
    (hg : o.guard = none) (l c : Operand) (t : TypeId) (hop : o.op = Op.makeSlice t l c)
    (e : TypeId) (i : TypeInfo) (z : Value) (ht : P.underlying t = some (.slice e)) (hi : P.info? e = some i) (hz : i.zero = some z) (hsize : i.size = E.k) (hz2 : z.cells = (E.enc z0).toArray)
    (kl kc : IntKind) (n : Nat) (hl : a.eval l = .int kl (n : Int)) (hc : a.eval c = .int kc (n : Int)) (hbytes : i.bytes * n ≤ 281474976710656) (h63 : n ≤ 9223372036854775807)
    (hK : wpList P ops Q rest (a.put o.dst (.slice (some ⟨w.heap.size, 0, none⟩) n n)) (w.alloc (.cells (E.flat (List.replicate n z0)).toArray e))) :
    wpList P ops Q (o :: rest) a w := by
  refine wpList_plain hg fun K hK' => ?_
  have hb' : (i.bytes : Int) * (n : Int) ≤ 281474976710656 := by
    have h : ((i.bytes * n : Nat) : Int) ≤ 281474976710656 := by omega
    rwa [Int.natCast_mul] at h
  have hrun := run_make (P := P) w t e i z ht hi hz kl kc n n (by omega) (Int.le_refl _) hb' (by omega)
  have hmade : madeCells z.cells (n * i.size) = (E.flat (List.replicate n z0)).toArray := by
    rw [hz2, hsize, E.flat_rep, ← E.len z0]
    exact mod_mul_cells _ (by rw [E.len]; exact E.pos) n
  simp only [Int.toNat_natCast, hmade] at hrun
  unfold Oper.wp
  simp [execOp, hop, hl, hc, hrun, Result.andThen]
  exact hK' _ _ hK
/-- A list that is copied up to k. -/
def upToS (z : α) (xs : List α) (n k : Nat) : List α := xs.take k ++ List.replicate (n - k) z
theorem upToS_len {z : α} {xs : List α} {n k : Nat} (hn : xs.length = n) (hk : k ≤ n) : (upToS z xs n k).length = n := by simp [upToS]; omega
theorem upToS_next {z : α} {xs : List α} {n k : Nat} (hn : xs.length = n) (hk : k < xs.length) : (upToS z xs n k).set k xs[k] = upToS z xs n (k + 1) := by
  unfold upToS
  rw [List.set_append_right _ _ (by simp; omega), List.take_succ_eq_append_getElem hk, show n - k = (n - (k + 1)) + 1 by omega, List.replicate_succ]
  simp [List.length_take, Nat.min_eq_left (by omega : k ≤ xs.length)]
  rw [List.take_succ_eq_append_getElem hk, List.append_assoc]; rfl
theorem upToS_all {z : α} {xs : List α} {n : Nat} (hn : xs.length = n) : upToS z xs n n = xs := by unfold upToS; rw [← hn]; simp
end
end Go.Proofs.Ytigndpajpofofaa
