/- Rows of rows of numbers of the call's own. -/
import Derived.Test.YtoklehmoeollfaaNk
import Derived.Test.YtoklehmoeollfaaOb
namespace Go.Proofs.Ytoklehmoeollfaa
open Go Go.ChangeShapes Go.WideShapes Go.ChangeAt Go.RowKit
set_option linter.unusedSimpArgs false
set_option linter.unusedVariables false

/-- A row of rows that the call has made: the heads, and each row in memory of its own. -/
structure NO (w : World) (base : Nat) (A : Option Addr) (cap : Nat) (hs : List VH) (rows : List (List Int)) : Prop where
  hd : SOwn encH w base 29 A cap hs
  len : hs.length = rows.length
  row : ∀ i (h : i < hs.length) (h' : i < rows.length), SOwn encNum w base 3 hs[i].1 hs[i].2.2 rows[i] ∧ hs[i].2.1 = rows[i].length
  dis : ∀ i j (hi : i < hs.length) (hj : j < hs.length), i ≠ j → ∀ g, hs[i].1 = some ⟨g, 0, none⟩ → hs[j].1 ≠ some ⟨g, 0, none⟩
theorem own_row {α : Type} {E : Enc α} {w : World} {base n cap : Nat} {T : TypeId} {V : Option Addr} {xs : List α} {r : Nat} (h : SOwn E w base T V cap xs) (hr : Value.ownBlock (.slice V n cap) = some r) : V = some ⟨r, 0, none⟩ ∧ base ≤ r ∧ r < w.heap.size ∧ ∃ c z, w.heap[r]? = some (.cells c T z) := by
  rcases h.form with ⟨rfl, _⟩ | ⟨g, rfl, a, b⟩
  · simp [Value.ownBlock] at hr
  · simp [Value.ownBlock] at hr
    subst hr
    refine ⟨rfl, a, b, ?_⟩
    rcases h.2 with ⟨e2, _⟩ | ⟨g2, cap2, cur, e2, hb2, hg2, _⟩
    · simp at e2
    · simp only [Value.slice.injEq, Option.some.injEq, Addr.mk.injEq] at e2
      obtain ⟨⟨rfl, _⟩, _⟩ := e2
      exact ⟨_, _, hg2⟩
theorem own_rowX {α : Type} {E : Enc α} {w : World} {base cap : Nat} {T : TypeId} {g : Nat} {xs : List α} (h : SOwn E w base T (some ⟨g, 0, none⟩) cap xs) : ∃ c z, w.heap[g]? = some (.cells c T z) := (own_row (n := 0) h (r := g) (by simp [Value.ownBlock])).2.2.2
section
variable {w w' : World} {base cap : Nat} {A : Option Addr} {hs : List VH} {rows : List (List Int)}
theorem NO.next (h : NO w base A cap hs rows) (hw : Below w.heap.size w w') : NO w' base A cap hs rows := ⟨h.hd.next hw, h.len, fun i a b => ⟨(h.row i a b).1.next hw, (h.row i a b).2⟩, h.dis⟩
theorem NO.drew (h : NO w base A cap hs rows) : NO w.drew base A cap hs rows := ⟨h.hd.drew, h.len, fun i a b => ⟨(h.row i a b).1.drew, (h.row i a b).2⟩, h.dis⟩
theorem NO.mono {base' : Nat} (h : NO w base A cap hs rows) (hb : base' ≤ base) : NO w base' A cap hs rows := ⟨h.hd.mono hb, h.len, fun i a b => ⟨(h.row i a b).1.mono hb, (h.row i a b).2⟩, h.dis⟩
theorem NO.nrow (h : NO w base A cap hs rows) : NRow w A hs rows := ⟨h.hd.row, h.len, fun i a b => (h.row i a b).2, fun i a b => (h.row i a b).1.row⟩
theorem NO.nil {g : Nat} (h : w.heap[g]? = some (.cells #[] 29 (0, 0))) (hb : base ≤ g) : NO w base (some ⟨g, 0, none⟩) 0 [] [] :=
  ⟨SOwn.empty h hb, rfl, fun i hi => absurd hi (Nat.not_lt_zero _), fun i j hi => absurd hi (Nat.not_lt_zero _)⟩
theorem NO.void : NO w base none 0 [] [] := ⟨SOwn.nil _ _ _, rfl, fun i hi => absurd hi (Nat.not_lt_zero _), fun i j hi => absurd hi (Nat.not_lt_zero _)⟩
/-- Heads that lead nowhere yet. -/
theorem NO.made {g n : Nat} (h : SBlk encH w g 29 (List.replicate n ((none, 0, 0) : VH))) (hb : base ≤ g) (hm : n ≤ maxLen) : NO w base (some ⟨g, 0, none⟩) n (List.replicate n (none, 0, 0)) (List.replicate n []) := by
  refine ⟨SOwn.of_blk h hb (by simp) hm, by simp, fun i a b => ?_, fun i j hi hj _ g e => ?_⟩
  · simp only [List.getElem_replicate]; exact ⟨SOwn.nil _ _ _, rfl⟩
  · simp at e
theorem NO.head {g : Nat} (h : NO w base (some ⟨g, 0, none⟩) cap hs rows) {i : Nat} (hi : i < hs.length) : w.cell? ⟨g, i, none⟩ = some (.slice hs[i].1 hs[i].2.1 hs[i].2.2) ∧ w.frozen? ⟨g, i, none⟩ = false := by
  have := h.hd.cell i hi 0 _ rfl
  exact ⟨by simpa [encH] using this, h.hd.frozen i⟩
/-- Behind a write into one of the rows, or into memory that is not theirs, heads and all other rows are as they were. -/
theorem NO.far {row : Option Nat} (h : NO w base A cap hs rows) (hg : w.grownBy w' row) (hT : ∀ r, row = some r → ∀ c z, w.heap[r]? ≠ some (.cells c 29 z)) : SOwn encH w' base 29 A cap hs ∧ ∀ j (hj : j < hs.length) (hj' : j < rows.length), (∀ r, row = some r → hs[j].1 ≠ some ⟨r, 0, none⟩) → SOwn encNum w' base 3 hs[j].1 hs[j].2.2 rows[j] := by
  refine ⟨h.hd.grown_far hg (fun g e c => ?_), fun j hj hj' hne => (h.row j hj hj').1.grown_far hg (fun g e c => ?_)⟩
  · subst e
    obtain ⟨cs, z, hh⟩ := own_rowX h.hd
    exact hT g c cs z hh
  · exact hne g c e
/-- One of the rows is another one of the same length, in the same place. -/
theorem NO.renew {i : Nat} {ys : List Int} (h : NO w base A cap hs rows) (hi : i < hs.length) (hi' : i < rows.length) (hl : ys.length = rows[i].length) (hg : w.grownBy w' (Value.ownBlock (.slice hs[i].1 rows[i].length hs[i].2.2))) (ho : SOwn encNum w' base 3 hs[i].1 hs[i].2.2 ys) : NO w' base A cap hs (rows.set i ys) := by
  obtain ⟨f1, f2⟩ := h.far hg (fun r hr c z hh => by
    obtain ⟨_, _, _, c2, z2, h2⟩ := own_row (h.row i hi hi').1 hr
    rw [h2] at hh; simp at hh)
  refine ⟨f1, by simp [h.len], fun j a b => ?_, h.dis⟩
  by_cases c : i = j
  · subst c
    simp only [List.getElem_set_self]
    exact ⟨ho, by rw [hl]; exact (h.row i hi hi').2⟩
  · simp only [List.getElem_set_ne c]
    have b' : j < rows.length := by simpa using b
    refine ⟨f2 j a b' (fun r hr => ?_), (h.row j a b').2⟩
    have := (own_row (h.row i hi hi').1 hr).1
    exact h.dis i j hi a c r this
/-- One of the rows has grown, and its head is stored. -/
theorem NO.grow {g i g5 cap5 H : Nat} {ys : List Int} (h : NO w base (some ⟨g, 0, none⟩) cap hs rows) (hi : i < hs.length) (hi' : i < rows.length) (hg : w.grownBy w' (Value.ownBlock (.slice hs[i].1 rows[i].length hs[i].2.2))) (ho : SOwn encNum w' base 3 (some ⟨g5, 0, none⟩) cap5 ys) (hat : Value.ownBlock (.slice hs[i].1 rows[i].length hs[i].2.2) = some g5 ∨ g5 = H) (hH : w.heap.size ≤ H) :
    NO (w'.setCell ⟨g, i, none⟩ (.slice (some ⟨g5, 0, none⟩) ys.length cap5)) base (some ⟨g, 0, none⟩) cap (hs.set i (some ⟨g5, 0, none⟩, ys.length, cap5)) (rows.set i ys) := by
  obtain ⟨f1, f2⟩ := h.far hg (fun r hr c z hh => by
    obtain ⟨_, _, _, c2, z2, h2⟩ := own_row (h.row i hi hi').1 hr
    rw [h2] at hh; simp at hh)
  have hset : SOwn encH (w'.setCell ⟨g, i, none⟩ (.slice (some ⟨g5, 0, none⟩) ys.length cap5)) base 29 (some ⟨g, 0, none⟩) cap (hs.set i (some ⟨g5, 0, none⟩, ys.length, cap5)) := by
    have := f1.set i hi ((some ⟨g5, 0, none⟩, ys.length, cap5) : VH)
    simpa [setAll, encH] using this
  obtain ⟨cg, zg, hgg⟩ := own_rowX f1
  have keep : ∀ (V : Option Addr) (c : Nat) (xs : List Int), SOwn encNum w' base 3 V c xs → SOwn encNum (w'.setCell ⟨g, i, none⟩ (.slice (some ⟨g5, 0, none⟩) ys.length cap5)) base 3 V c xs := fun V c xs hx => by
    refine hx.grown_far (row := some g) (setAll_grown [.slice (some ⟨g5, 0, none⟩) ys.length cap5] i ⟨rfl, rfl, rfl, Nat.le_refl _, fun _ _ _ => rfl⟩) (fun k e c => ?_)
    subst e
    obtain ⟨cx, zx, hxx⟩ := own_rowX hx
    obtain rfl : g = k := by simpa using c
    rw [hgg] at hxx; simp at hxx
  have new : ∀ j (hj : j < hs.length), j ≠ i → ∀ k, hs[j].1 = some ⟨k, 0, none⟩ → k ≠ g5 := fun j hj hne k e c => by
    subst c
    rcases hat with e2 | e2
    · have := (own_row (h.row i hi hi').1 e2).1
      exact h.dis i j hi hj (fun x => hne x.symm) k this e
    · have hj' : j < rows.length := by rw [← h.len]; exact hj
      have hx := (h.row j hj hj').1
      rw [e] at hx
      rcases hx.form with ⟨c, _⟩ | ⟨g1, c, _, c2⟩
      · cases c
      · simp only [Option.some.injEq, Addr.mk.injEq, and_true] at c; omega
  refine ⟨hset, by simp [h.len], fun j a b => ?_, fun j k a b hne x e1 e2 => ?_⟩
  · by_cases c : i = j
    · subst c
      simp only [List.getElem_set_self]
      exact ⟨keep _ _ _ ho, by first | rfl | trivial⟩
    · simp only [List.getElem_set_ne c]
      have a' : j < hs.length := by simpa using a
      have b' : j < rows.length := by simpa using b
      refine ⟨keep _ _ _ (f2 j a' b' (fun r hr => ?_)), (h.row j a' b').2⟩
      have := (own_row (h.row i hi hi').1 hr).1
      exact h.dis i j hi a' c r this
  · simp only [List.length_set] at a b
    by_cases c : i = j
    · subst c
      simp only [List.getElem_set_self, Option.some.injEq, Addr.mk.injEq, and_true] at e1
      simp only [List.getElem_set_ne hne] at e2
      exact new k b (fun x => hne x.symm) x e2 e1.symm
    · by_cases d : i = k
      · subst d
        simp only [List.getElem_set_self, Option.some.injEq, Addr.mk.injEq, and_true] at e2
        simp only [List.getElem_set_ne c] at e1
        exact new j a (fun x => c x.symm) x e1 e2.symm
      · simp only [List.getElem_set_ne c] at e1
        simp only [List.getElem_set_ne d] at e2
        exact h.dis j k a b hne x e1 e2
theorem NO.growV {g i g5 cap5 H q q2 c : Nat} {V : Option Addr} {ys : List Int} (h : NO w base (some ⟨g, 0, none⟩) cap hs rows) (hi : i < hs.length) (hi' : i < rows.length) (hv : hs[i] = (V, q, c)) (hq : rows[i].length = q) (hg : w.grownBy w' (Value.ownBlock (.slice V q c))) (ho : SOwn encNum w' base 3 (some ⟨g5, 0, none⟩) cap5 ys) (hy : ys.length = q2) (hat : Value.ownBlock (.slice V q c) = some g5 ∨ g5 = H) (hH : w.heap.size ≤ H) :
    NO (w'.setCell ⟨g, i, none⟩ (.slice (some ⟨g5, 0, none⟩) q2 cap5)) base (some ⟨g, 0, none⟩) cap (hs.set i (some ⟨g5, 0, none⟩, q2, cap5)) (rows.set i ys) := by
  have e : Value.ownBlock (.slice hs[i].1 rows[i].length hs[i].2.2) = Value.ownBlock (.slice V q c) := by rw [hv, hq]
  have := h.grow hi hi' (by rw [e]; exact hg) ho (by rw [e]; exact hat) hH
  rw [hy] at this; exact this
/-- One more row, whose head is appended. -/
theorem NO.snoc {g5 cap5 q c gr : Nat} {ys : List Int} (h : NO w base A cap hs rows) (hy : SOwn encNum w base 3 (some ⟨gr, 0, none⟩) c ys) (hq : ys.length = q) (hn : ∀ j (hj : j < hs.length), hs[j].1 ≠ some ⟨gr, 0, none⟩)
    (ho : SOwn encH w' base 29 (some ⟨g5, 0, none⟩) cap5 (hs ++ [(some ⟨gr, 0, none⟩, q, c)])) (hgr : w.grownBy w' (Value.ownBlock (.slice A hs.length cap))) : NO w' base (some ⟨g5, 0, none⟩) cap5 (hs ++ [(some ⟨gr, 0, none⟩, q, c)]) (rows ++ [ys]) := by
  have hl := h.len
  have keep : ∀ (V : Option Addr) (c : Nat) (xs : List Int), SOwn encNum w base 3 V c xs → SOwn encNum w' base 3 V c xs := fun V c xs hx => by
    refine hx.grown_far hgr (fun k e c => ?_)
    subst e
    obtain ⟨cx, zx, hxx⟩ := own_rowX hx
    obtain ⟨_, _, _, c2, z2, h2⟩ := own_row h.hd c
    rw [h2] at hxx; simp at hxx
  refine ⟨ho, by simp [hl], fun i a b => ?_, fun i j a b hne g e1 e2 => ?_⟩
  · by_cases d : i < hs.length
    · have d' : i < rows.length := by omega
      rw [List.getElem_append_left d, List.getElem_append_left d']
      exact ⟨keep _ _ _ (h.row i d d').1, (h.row i d d').2⟩
    · have hi : i = hs.length := by simp at a; omega
      subst hi
      rw [List.getElem_append_right (Nat.le_refl _), List.getElem_append_right (by omega)]
      simp only [Nat.sub_self, List.getElem_cons_zero, show hs.length - rows.length = 0 by omega]
      exact ⟨keep _ _ _ hy, hq.symm⟩
  · simp only [List.length_append, List.length_cons, List.length_nil] at a b
    by_cases d : i < hs.length <;> by_cases f : j < hs.length
    · rw [List.getElem_append_left d] at e1
      rw [List.getElem_append_left f] at e2
      exact h.dis i j d f hne g e1 e2
    · rw [List.getElem_append_left d] at e1
      rw [List.getElem_append_right (by omega)] at e2
      simp only [show j - hs.length = 0 by omega, List.getElem_cons_zero] at e2
      exact hn i d (by rw [e1, ← e2])
    · rw [List.getElem_append_right (by omega)] at e1
      rw [List.getElem_append_left f] at e2
      simp only [show i - hs.length = 0 by omega, List.getElem_cons_zero] at e1
      exact hn j f (by rw [e2, ← e1])
    · omega
/-- A new block is none of the rows'. -/
theorem NO.fresh (h : NO w base A cap hs rows) : ∀ g, (some ⟨w.heap.size, 0, none⟩ : Option Addr) = some ⟨g, 0, none⟩ → ∀ j (hj : j < hs.length), hs[j].1 ≠ some ⟨g, 0, none⟩ := by
  intro g e j hj c
  simp only [Option.some.injEq, Addr.mk.injEq, and_true] at e
  subst e
  have hx := (h.row j hj (by rw [← h.len]; exact hj)).1
  rw [c] at hx
  rcases hx.form with ⟨c, _⟩ | ⟨g1, c, _, c2⟩
  · cases c
  · simp only [Option.some.injEq, Addr.mk.injEq, and_true] at c; omega
/-- Behind a write into a row that is none of theirs. -/
theorem NO.apart {base2 c p : Nat} {U : Option Addr} {xs : List Int} (h : NO w base A cap hs rows) (hO : SOwn encNum w base2 3 U c xs) (hd : ∀ g, U = some ⟨g, 0, none⟩ → ∀ j (hj : j < hs.length), hs[j].1 ≠ some ⟨g, 0, none⟩) (hg : w.grownBy w' (Value.ownBlock (.slice U p c))) : NO w' base A cap hs rows := by
  obtain ⟨f1, f2⟩ := h.far hg (fun r hr c z hh => by
    obtain ⟨_, _, _, c2, z2, h2⟩ := own_row hO hr
    rw [h2] at hh; simp at hh)
  exact ⟨f1, h.len, fun j a b => ⟨f2 j a b (fun r hr => hd r (own_row hO hr).1 j a), (h.row j a b).2⟩, h.dis⟩
theorem NO.apartNext {base2 c p g5 : Nat} {U : Option Addr} {xs : List Int} (h : NO w base A cap hs rows) (hO : SOwn encNum w base2 3 U c xs) (hd : ∀ g, U = some ⟨g, 0, none⟩ → ∀ j (hj : j < hs.length), hs[j].1 ≠ some ⟨g, 0, none⟩) (hat : Value.ownBlock (.slice U p c) = some g5 ∨ g5 = w.heap.size) : ∀ g, (some ⟨g5, 0, none⟩ : Option Addr) = some ⟨g, 0, none⟩ → ∀ j (hj : j < hs.length), hs[j].1 ≠ some ⟨g, 0, none⟩ := by
  rcases hat with e | e
  · rw [(own_row hO e).1] at hd; exact hd
  · subst e; exact h.fresh
theorem NO.belHead {w0 : World} {g : Nat} (h : NO w w0.heap.size (some ⟨g, 0, none⟩) cap hs rows) (hB : Below w0.heap.size w0 w') (i : Nat) (v : Value) : Below w0.heap.size w0 (w'.setCell ⟨g, i, none⟩ v) := by
  rcases h.hd.form with ⟨e, _⟩ | ⟨g1, e, hb, _⟩
  · cases e
  · simp only [Option.some.injEq, Addr.mk.injEq, and_true] at e
    subst e
    exact hB.setCell (p := ⟨g, i, none⟩) hb v
end
end Go.Proofs.Ytoklehmoeollfaa
