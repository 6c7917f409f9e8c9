/- Rows of rows of numbers: copies, comparisons, sizes, arguments. -/
import Derived.Test.YtoklehmoeollfaaNk
namespace Go.Proofs.Ytoklehmoeollfaa
open Go Go.ChangeShapes Go.WideShapes Go.ChangeAt Go.RowKit
set_option linter.unusedSimpArgs false
set_option linter.unusedVariables false

/-- Copies of the first rows, each in a block of its own above the heads' block. -/
structure CpK (w : World) (g : Nat) (rows : List (List Int)) (k : Nat) (hs : List VH) : Prop where
  len : hs.length = k
  row : ∀ i (h : i < hs.length) (h' : i < rows.length), ∃ b : Nat, hs[i] = (some ⟨b, 0, none⟩, rows[i].length, rows[i].length) ∧ g < b ∧ SBlk encNum w b 3 rows[i]
theorem CpK.nil (w : World) (g : Nat) (rows : List (List Int)) : CpK w g rows 0 [] := ⟨rfl, fun i h => absurd h (Nat.not_lt_zero _)⟩
theorem CpK.next {w w' : World} {g k : Nat} {rows : List (List Int)} {hs : List VH} (h : CpK w g rows k hs) (hw : Below w.heap.size w w') : CpK w' g rows k hs := ⟨h.len, fun i a b => by obtain ⟨x, e, l, s⟩ := h.row i a b; exact ⟨x, e, l, s.next hw⟩⟩
theorem CpK.snoc {w : World} {g k b : Nat} {rows : List (List Int)} {hs : List VH} (h : CpK w g rows k hs) (hk : k < rows.length) (hg : g < b) (hb : SBlk encNum w b 3 rows[k]) (v : Value) : CpK (w.setCell ⟨g, k, none⟩ v) g rows (k + 1) (hs ++ [(some ⟨b, 0, none⟩, rows[k].length, rows[k].length)]) := by
  refine ⟨by simp [h.len], fun i a a' => ?_⟩
  by_cases c : i < hs.length
  · obtain ⟨x, e, l, s⟩ := h.row i c a'
    exact ⟨x, by rw [List.getElem_append_left c]; exact e, l, blk_far s (by omega) v⟩
  · have hl := h.len
    have hi : i = k := by simp at a; omega
    subst hi
    refine ⟨b, ?_, hg, blk_far hb (by omega) v⟩
    rw [List.getElem_append_right (by omega)]
    simp [hl]
theorem heads_set {hs : List VH} {k n : Nat} (hl : hs.length = k) (hk : k < n) (x z : VH) : (hs ++ List.replicate (n - k) z).set k x = (hs ++ [x]) ++ List.replicate (n - (k + 1)) z := by
  subst hl
  rw [show n - hs.length = (n - (hs.length + 1)) + 1 by omega, List.replicate_succ, List.set_append_right _ _ (Nat.le_refl _)]
  simp
theorem setH {w : World} {g : Nat} {hs : List VH} (h : SBlk encH w g 29 hs) (i : Nat) (hi : i < hs.length) (x : VH) : SBlk encH (w.setCell ⟨g, i, none⟩ (.slice x.1 x.2.1 x.2.2)) g 29 (hs.set i x) := by
  have := h.set i hi x
  simpa [setAll, encH] using this
theorem CpK.nrow {w : World} {g n : Nat} {rows : List (List Int)} {hs : List VH} (h : CpK w g rows n hs) (hn : rows.length = n) (hb : SBlk encH w g 29 hs) : NRow w (some ⟨g, 0, none⟩) hs rows :=
  ⟨hb.row, by rw [h.len, hn], fun i a b => by obtain ⟨x, e, _⟩ := h.row i a b; rw [e], fun i a b => by obtain ⟨x, e, _, s⟩ := h.row i a b; rw [e]; exact s.row⟩
def CopyNN (n : Nat) (rows : List (List Int)) (w : World) (e : Ending) (w' : World) : Prop := ∃ (g : Nat) (hs : List VH), e = .returned (.slice (some ⟨g, 0, none⟩) n n) ∧ NRow w' (some ⟨g, 0, none⟩) hs rows ∧ Below w.heap.size w w'
theorem SBlk.some {w : World} {g : Nat} {hs : List VH} (h : SBlk encH w g 29 hs) (i : Nat) (hi : i < hs.length) : ∃ v, w.cell? ⟨g, i, none⟩ = Option.some v := by
  have := h.cell i hi 0 _ rfl
  exact ⟨_, by simpa [encH] using this⟩
def LeftNN (L : Int) (n : Nat) (rows : List (List Int)) (r : Int) : Prop := r = -1 ∨ (0 ≤ r ∧ r ≤ L ∧ (n : Int) ≤ L ∧ ∀ j (hj : j < rows.length), (rows[j].length : Int) ≤ L)
def SzRet (L : Int) (n : Nat) (rows : List (List Int)) (w : World) (e : Ending) (w' : World) : Prop := ∃ r, e = .returned (.int .i64 r) ∧ LeftNN L n rows r ∧ w = w'
section
variable {H : Type} {enc : TypeId × Value → H} {w : World} {base : Nat} {spare : Nat → Bool} {held : Bool}
theorem rows_ch : ∀ (hs : List VH), (∀ v ∈ hs, ∃ xs : List Int, v.2.1 = xs.length ∧ xs.length ≤ maxLen ∧ SRow encNum w v.1 xs) → ∃ rows : List (List Int), hs.length = rows.length ∧ (∀ i (h : i < hs.length) (h' : i < rows.length), hs[i].2.1 = rows[i].length ∧ rows[i].length ≤ maxLen ∧ SRow encNum w hs[i].1 rows[i])
  | [], _ => ⟨[], rfl, fun i h => absurd h (Nat.not_lt_zero _)⟩
  | v :: hs, H => by
    obtain ⟨rows, e, hr⟩ := rows_ch hs (fun u hu => H u (List.mem_cons_of_mem _ hu))
    obtain ⟨xs, a, b, c⟩ := H v (by simp)
    refine ⟨xs :: rows, by simp [e], fun i h h' => ?_⟩
    cases i with
    | zero => exact ⟨a, b, c⟩
    | succ i => exact hr i (by simpa using h) (by simpa using h')
theorem openNumSS {fuel : Nat} {cs : List Value} {x : DataW H × List MemPlace} (h : DataW.trod enc Try.prog w base spare held fuel 23 cs = some x) :
    ∃ (A : Option Addr) (cap : Nat) (hs : List VH) (rows : List (List Int)), cs = [.slice A rows.length cap] ∧ rows.length ≤ maxLen ∧ NRow w A hs rows ∧ ∀ j (hj : j < rows.length), rows[j].length ≤ maxLen := by
  obtain ⟨A, cap, hs, e, hl, hr, hq⟩ := open_structs encH ((none, 0, 0) : VH) (fun v => ∃ xs : List Int, v.2.1 = xs.length ∧ xs.length ≤ maxLen ∧ SRow encNum w v.1 xs) Try.underlying23 (by kernel_rfl) (fun fuel cs x hx => by
    obtain ⟨A, cap, xs, e, hl, hr, _⟩ := openNumS hx
    exact ⟨(A, xs.length, cap), e, xs, rfl, hl, hr⟩) h
  obtain ⟨rows, el, hrow⟩ := rows_ch hs hq
  exact ⟨A, cap, hs, rows, by rw [← el]; exact e, by rw [← el]; exact hl, ⟨hr, el, fun i a b => (hrow i a b).1, fun i a b => (hrow i a b).2.2⟩, fun j hj => (hrow j (by rw [el]; exact hj) hj).2.1⟩
end
end Go.Proofs.Ytoklehmoeollfaa
