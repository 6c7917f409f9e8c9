/- Rows of rows that are read; plans of years. -/
import Derived.Test.YtoklehmoeollfaaGNum
import Derived.Test.YtoklehmoeollfaaQm
namespace Go.Proofs.Ytoklehmoeollfaa
open Go Go.ChangeShapes Go.WideShapes Go.ChangeAt Go.RowKit
set_option linter.unusedSimpArgs false
set_option linter.unusedVariables false

abbrev VH := Option Addr × Nat × Nat
def encH : Enc VH := ⟨1, fun x => [.slice x.1 x.2.1 x.2.2], fun _ => rfl, by intro x u hu; simp at hu; subst hu; rfl, by omega⟩
theorem infoH : (Try.prog.info? 29).map (fun i => (i.zero, i.size, i.bytes)) = some (some (.slice none 0 0), 1, 24) := by kernel_rfl
/-- Rows of rows of numbers: heads, and what they lead to. -/
structure NRow (w : World) (A : Option Addr) (hs : List VH) (rows : List (List Int)) : Prop where
  hd : SRow encH w A hs
  len : hs.length = rows.length
  rl : ∀ i (h : i < hs.length) (h' : i < rows.length), hs[i].2.1 = rows[i].length
  row : ∀ i (h : i < hs.length) (h' : i < rows.length), SRow encNum w hs[i].1 rows[i]
section
variable {w w' : World} {A : Option Addr} {hs : List VH} {rows : List (List Int)}
theorem NRow.next (h : NRow w A hs rows) (hw : Below w.heap.size w w') : NRow w' A hs rows := ⟨h.hd.next hw, h.len, h.rl, fun i a b => (h.row i a b).next hw⟩
theorem NRow.nil (A : Option Addr) : NRow w A [] [] := ⟨SRow.nil w A, rfl, fun i a => absurd a (Nat.not_lt_zero _), fun i a => absurd a (Nat.not_lt_zero _)⟩
theorem NRow.get (h : NRow w A hs rows) {i : Nat} (hi : i < rows.length) : ∃ b off : Nat, A = some ⟨b, off, none⟩ ∧ b < w.heap.size ∧ ∀ j (hj : j < rows.length), ∃ (H : Option Addr) (q c : Nat), rows[j].length = q ∧ w.cell? ⟨b, off + j, none⟩ = some (.slice H q c) ∧ SRow encNum w H rows[j] := by
  have hl := h.len
  obtain ⟨b, off, e, hb, hc⟩ : ∃ b off : Nat, A = some ⟨b, off, none⟩ ∧ b < w.heap.size ∧ ∀ j (h : j < hs.length), w.cell? ⟨b, off + j, none⟩ = some (.slice hs[j].1 hs[j].2.1 hs[j].2.2) := by
    rcases h.hd with e | ⟨b, off, e, hc⟩
    · rw [e] at hl; simp at hl; omega
    · refine ⟨b, off, e, ?_, fun j hj => ?_⟩
      · have h0 := hc i (by omega) 0 _ rfl
        exact World.block_lt_of_cell? w _ h0
      · have := hc j hj 0 _ rfl; simpa [encH] using this
  refine ⟨b, off, e, hb, fun j hj => ⟨hs[j].1, hs[j].2.1, hs[j].2.2, (h.rl j (by omega) hj).symm, hc j (by omega), h.row j (by omega) hj⟩⟩
end
/-! Plans. -/
theorem all_next {p : Nat → Prop} {k : Nat} (h : ∀ j, j < k → p j) (hk : p k) : ∀ j, j < k + 1 → p j := fun j hj => by
  rcases Nat.lt_or_ge j k with e | e
  · exact h j e
  · rw [show j = k by omega]; exact hk
def fmV (x : Int) : Bool := inV x 0 5
def rwK (rows : List (List Int)) (j : Nat) : List Int := rows.getD j []
def RwOk (rows : List (List Int)) (j : Nat) : Prop := (rwK rows j).length ≤ 6 ∧ (rwK rows j).length = (rwK rows 0).length ∧ (rwK rows j).all fmV = true
instance (rows : List (List Int)) (j : Nat) : Decidable (RwOk rows j) := by unfold RwOk; infer_instance
def RvOk (rows : List (List Int)) : Prop := rows.length ≤ 8 ∧ ∀ j, j < rows.length → RwOk rows j
instance (rows : List (List Int)) : Decidable (RvOk rows) := by unfold RvOk; infer_instance
def rvB (rows : List (List Int)) : Bool := decide (RvOk rows)
section
variable {rows : List (List Int)}
theorem rvB_iff : rvB rows = true ↔ RvOk rows := by unfold rvB; rw [decide_eq_true_eq]
theorem rvB_bad {j : Nat} (hj : j < rows.length) (h : ¬ RwOk rows j) : rvB rows = false := by unfold rvB; rw [decide_eq_false_iff_not]; exact fun c => h (c.2 j hj)
theorem rvB_many (h : ¬ rows.length ≤ 8) : rvB rows = false := by unfold rvB; rw [decide_eq_false_iff_not]; exact fun c => h c.1
theorem rvB_len (h : ∀ j, j < rows.length → RwOk rows j) : rvB rows = decide (rows.length ≤ 8) := by
  rw [Bool.eq_iff_iff, rvB_iff, decide_eq_true_eq]; exact ⟨fun c => c.1, fun c => ⟨c, h⟩⟩
theorem rwK_at {j : Nat} (hj : j < rows.length) : rwK rows j = rows[j] := by simp [rwK, hj]
/-- Two years so far apart have the same family in a bed. -/
def HitR (rows : List (List Int)) (y z b : Nat) : Prop := y < z ∧ z < rows.length ∧ b < (rwK rows y).length ∧ (rwK rows y).getD b 0 = (rwK rows z).getD b 0
/-- The least number of years so far; S: what has been looked at. -/
structure RestK (rows : List (List Int)) (S : Nat → Nat → Nat → Prop) (r : Int) : Prop where
  lo : 1 ≤ r
  hi : r ≤ 8
  ex : r = 8 ∨ ∃ y z b, HitR rows y z b ∧ r = (z : Int) - y
  le : ∀ y z b, S y z b → HitR rows y z b → r ≤ (z : Int) - y
def RestIs (rows : List (List Int)) (r : Int) : Prop := RestK rows (fun _ _ _ => True) r
theorem RestK.start {S : Nat → Nat → Nat → Prop} (h : ∀ y z b, S y z b → ¬ HitR rows y z b) : RestK rows S 8 := ⟨by omega, by omega, Or.inl rfl, fun y z b s k => absurd k (h y z b s)⟩
theorem RestK.same {S S' : Nat → Nat → Nat → Prop} {r : Int} (h : RestK rows S r) (k : ∀ y z b, S' y z b → HitR rows y z b → S y z b) : RestK rows S' r := ⟨h.lo, h.hi, h.ex, fun y z b s c => h.le y z b (k y z b s c) c⟩
theorem RestK.hit {S S' : Nat → Nat → Nat → Prop} {r : Int} {y z b : Nat} (h : RestK rows S r) (c : HitR rows y z b) (k : ∀ y' z' b', S' y' z' b' → HitR rows y' z' b' → S y' z' b' ∨ ((z' : Int) - y' = (z : Int) - y)) : RestK rows S' (min r ((z : Int) - y)) := by
  have hyz := c.1
  have h1 := h.lo; have h2 := h.hi
  refine ⟨by omega, by omega, ?_, fun y' z' b' s d => ?_⟩
  · by_cases e : r ≤ (z : Int) - y
    · rw [show min r ((z : Int) - y) = r by omega]; exact h.ex
    · rw [show min r ((z : Int) - y) = (z : Int) - y by omega]; exact Or.inr ⟨y, z, b, c, rfl⟩
  · rcases k y' z' b' s d with e | e
    · have := h.le y' z' b' e d; omega
    · omega
theorem RestK.done {S : Nat → Nat → Nat → Prop} {r : Int} (h : RestK rows S r) (k : ∀ y z b, HitR rows y z b → S y z b) : RestIs rows r := h.same (fun y z b _ c => k y z b c)
theorem RestIs.unique {r r' : Int} (h : RestIs rows r) (h' : RestIs rows r') : r = r' := by
  have a : ∀ {r r' : Int}, RestIs rows r → RestIs rows r' → r ≤ r' := fun {r r'} h h' => by
    rcases h'.ex with e | ⟨y, z, b, c, e⟩
    · rw [e]; exact h.hi
    · rw [e]; exact h.le y z b trivial c
  have := a h h'; have := a h' h; omega
def RrI (rows : List (List Int)) (r : Int) : Prop := (rvB rows = false ∧ r = -1) ∨ (rvB rows = true ∧ RestIs rows r)
/-- There is always such a number. -/
theorem rest_ex (rows : List (List Int)) : ∃ r, RestIs rows r := by
  have key : ∀ m : Nat, m ≤ 7 → (∀ y z b, HitR rows y z b → m < z - y) ∨ ∃ y z b, HitR rows y z b ∧ 1 ≤ z - y ∧ z - y ≤ m ∧ ∀ y' z' b', HitR rows y' z' b' → z - y ≤ z' - y' := by
    intro m
    induction m with
    | zero => intro _; exact Or.inl (fun y z b c => by have := c.1; omega)
    | succ m ih =>
      intro hm
      rcases ih (by omega) with a | ⟨y, z, b, c, d, e, f⟩
      · by_cases x : ∃ y z b, HitR rows y z b ∧ z - y = m + 1
        · obtain ⟨y, z, b, c, d⟩ := x
          exact Or.inr ⟨y, z, b, c, by omega, by omega, fun y' z' b' k => by have := a y' z' b' k; omega⟩
        · exact Or.inl (fun y z b c => by
            have := a y z b c
            have : z - y ≠ m + 1 := fun d => x ⟨y, z, b, c, d⟩
            omega)
      · exact Or.inr ⟨y, z, b, c, d, by omega, f⟩
  rcases key 7 (by omega) with a | ⟨y, z, b, c, d, e, f⟩
  · exact ⟨8, by omega, by omega, Or.inl rfl, fun y z b _ c => by have := a y z b c; omega⟩
  · exact ⟨(z : Int) - y, by omega, by omega, Or.inr ⟨y, z, b, c, rfl⟩, fun y' z' b' _ k => by have := f y' z' b' k; have := k.1; have := c.1; omega⟩
theorem rr_ex (rows : List (List Int)) : ∃ r, RrI rows r := by
  cases h : rvB rows
  · exact ⟨-1, Or.inl ⟨h, rfl⟩⟩
  · obtain ⟨r, hr⟩ := rest_ex rows; exact ⟨r, Or.inr ⟨h, hr⟩⟩
end
end Go.Proofs.Ytoklehmoeollfaa
