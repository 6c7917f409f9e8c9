/- Rows of structs: cut, cleared, copied by slices.Clone. -/
import Derived.Test.YtidppabconifkabPp
import Derived.Test.YtidppabconifkabPi
import Derived.Lib.SliceRun
import Derived.Laws.IdiomCopy
namespace Go.Proofs.Ytidppabconifkab
open Go Go.ChangeShapes Go.WideShapes Go.ChangeAt Go.RowKit
set_option linter.unusedSimpArgs false
set_option linter.unusedVariables false

theorem setCells_eq (g : Nat) : ∀ (l : List Value) (w : World) (o : Nat), w.setCells g o l = setAll w g o l
  | [], _, _ => rfl
  | v :: r, w, o => by
    show (w.setCell ⟨g, o, none⟩ v).setCells g (o + 1) r = _
    rw [setCells_eq g r]; rfl
theorem listSet_take (r l : List Value) (o : Nat) : (listSet l o r).take o = l.take o := by
  apply List.ext_getElem?
  intro m
  rw [List.getElem?_take, List.getElem?_take]
  split
  · rw [listSet_at, if_neg (by omega)]
  · rfl
theorem Enc.flat_take {α : Type} (E : Enc α) (xs : List α) (i : Nat) (h : i ≤ xs.length) : E.flat (xs.take i) = (E.flat xs).take (i * E.k) := by
  have e : E.flat xs = E.flat (xs.take i) ++ E.flat (xs.drop i) := by rw [E.flat_app, List.take_append_drop]
  have hl : (E.flat (xs.take i)).length = i * E.k := by rw [E.flat_len, List.length_take, Nat.min_eq_left h]
  have h2 : (E.flat xs).take (i * E.k) = E.flat (xs.take i) := by rw [e, List.take_left' hl]
  exact h2.symm
theorem own_prefix {w : World} {base size n i g cap : Nat} {T : TypeId} {M : List Value} (h : w.ownsRow base T size (.slice (some ⟨g, 0, none⟩) n cap) n M) (hi : i ≤ n) : w.ownsRow base T size (.slice (some ⟨g, 0, none⟩) i cap) i (M.take (i * size)) := by
  obtain ⟨hl, h⟩ := h
  have hm : i * size ≤ n * size := Nat.mul_le_mul_right _ hi
  refine ⟨by rw [List.length_take, hl]; omega, ?_⟩
  rcases h with ⟨e, _⟩ | ⟨g', cap', cur, e, hb, hg, h1, h2, h3, h4⟩
  · cases e
  · cases e
    exact .inr ⟨g, cap, cur, rfl, hb, hg, by omega, h2, h3, by rw [← h4, List.take_take, Nat.min_eq_left hm]⟩
/-- clear(s[i:]) and s[:i]: the first i elements stay. -/
theorem SOwn.cleared {α : Type} {E : Enc α} {w : World} {base g cap i : Nat} {T : TypeId} {xs : List α} (h : SOwn E w base T (some ⟨g, 0, none⟩) cap xs) (hi : i ≤ xs.length) (R : List Value) : SOwn E (setAll w g (i * E.k) R) base T (some ⟨g, 0, none⟩) cap (xs.take i) := by
  have h1 := setAll_raw R w base E.k xs.length g (i * E.k) T cap (E.flat xs) h
  have h2 := own_prefix h1 hi
  rw [listSet_take, ← E.flat_take xs i hi] at h2
  exact SOwn.of_raw h2 rfl (by rw [List.length_take, Nat.min_eq_left hi])
theorem zero_flat {α : Type} (E : Enc α) (z0 : α) (n : Nat) (z : Value) (hz : z.cells = (E.enc z0).toArray) : (Builtin.zeroCells z.cells n).toList = E.flat (List.replicate n z0) := by
  rw [hz, E.flat_rep]
  have h := mod_mul_cells (E.enc z0) (by rw [E.len]; exact E.pos) n
  have h2 : (Builtin.zeroCells (E.enc z0).toArray n) = madeCells (E.enc z0).toArray (n * (E.enc z0).length) := by
    unfold Builtin.zeroCells madeCells
    simp
  rw [h2, h]
/-- clear of n elements of a row of the call's own, from the i-th one on. -/
theorem run_clear_own {α : Type} {E : Enc α} (z0 : α) {w : World} {base g cap i n c : Nat} {T t ty : TypeId} {z : Value} {xs : List α} (h : SOwn E w base T (some ⟨g, 0, none⟩) cap xs) (hi : i + n ≤ xs.length) (hn : 0 < n) (ht : Try.prog.underlying t = some (.slice T))
    (hv : ∀ w, (zeroValue T).run Try.prog w = .ok z w) (hz : z.cells = (E.enc z0).toArray) : (Builtin.clear_ #[t] ty #[.slice (some ⟨g, i * E.k, none⟩) n c]).run Try.prog w = .ok (.tuple #[]) (setAll w g (i * E.k) (E.flat (List.replicate n z0))) := by
  have hlen : (E.flat (List.replicate n z0)).length = n * E.k := by rw [E.flat_len, List.length_replicate]
  have hst := run_storeCells_cells (P := Try.prog) g (i * E.k) (E.flat (List.replicate n z0)) 0 w
    (fun j hj => by
      rw [hlen] at hj
      have hb : i * E.k + n * E.k ≤ xs.length * E.k := by rw [← Nat.add_mul]; exact Nat.mul_le_mul_right _ hi
      rw [Nat.add_zero, World.ownsRow.cellAt h (i * E.k + j) (by omega)]
      rw [List.getElem?_eq_getElem (by rw [E.flat_len]; omega)]; rfl)
    (fun j _ => h.frozen _) (E.flat_one _)
  rw [Nat.add_zero, setCells_eq] at hst
  obtain ⟨m, rfl⟩ : ∃ m, n = m + 1 := ⟨n - 1, by omega⟩
  simp [Builtin.clear_, run_underlying ht, hv, zero_flat E z0 (m + 1) z hz, hst]
/-- slices.Clone of a list that is not nil. -/
def CloneRet (xs : List VMark) (w : World) (e : Ending) (w' : World) : Prop := ∃ g cp : Nat, e = .returned (.slice (some ⟨g, 0, none⟩) xs.length cp) ∧ SOwn encMark w' w.heap.size 40 (some ⟨g, 0, none⟩) cp xs ∧ Below w.heap.size w w'
set_option maxHeartbeats 4000000 in
theorem clone_any (b off cap : Nat) (xs : List VMark) (w : World) {n : Nat} (hn : xs.length = n) (h : SRow encMark w (some ⟨b, off, none⟩) xs) (hl : n ≤ 2000000) : Calls Try.prog 54 #[.slice (some ⟨b, off, none⟩) n cap] w (CloneRet xs w) := by
  have HN := Lib.hid hn
  have H := Lib.hid h
  clear hn h
  obtain ⟨i0, hi0, hz0, hz1, hz2⟩ := info_parts infoMark
  have HI := Lib.hid (And.intro hi0 (And.intro hz0 (And.intro hz1 hz2)))
  clear hi0 hz0 hz1 hz2
  have q25 : ∀ (w : World) (a : Option Addr) (n c n' c' : Nat), (binOp .eql 37 (.slice a n c) (.slice none n' c')).run Try.prog w = .ok (.bool a.isNone) w := fun w a n c n' c' => Lib.run_eql_slice_nil w _ _ a n c n' c' Try.underlying37
  have hsrc := SRow.news (H.out.next (bel1 w (.cells #[] 40)))
  have hOe := SOwn.empty (E := encMark) (blk_new w (.cells #[] 40)) (Nat.le_refl _)
  go_enter Try.func54, Try.ntmps54
  go_wp2_with (at_builtin; refine wpList_append_own _ rfl (.tmp 5) (.tmp 6) _ rfl w.heap.size 40 i0 _ 3 32 Try.underlying37 HI.out.1 HI.out.2.1 HI.out.2.2.1 HI.out.2.2.2 rfl (by omega) (.slice (some ⟨w.heap.size, 0, none⟩) 0 0) 0 [] rfl hOe ⟨b, off, none⟩ n cap (encMark.flat xs) rfl (by rw [encMark.flat_len, HN.out]; rfl) hsrc (encMark.flat_one _) (by simp only [maxLen]; omega) (by omega) (by simp) ?_; intro v9 w9 hown9 hgr9 hnil9)
  have hn9 : 0 + n = n := by omega
  rw [hn9] at hown9
  have hv9 : v9 ≠ .slice none 0 0 := fun e => by have := (hnil9.1 e).1; simp at this
  obtain ⟨g, cp, rfl⟩ : ∃ g cp, v9 = .slice (some ⟨g, 0, none⟩) n cp := by
    rcases hown9.2 with ⟨e, _⟩ | ⟨g, cap', cur, e, _⟩
    · exact absurd e hv9
    · exact ⟨g, cap', e⟩
  clear hnil9 hv9 hsrc q25
  have hO9 : SOwn encMark w9 w.heap.size 40 (some ⟨g, 0, none⟩) cp xs := SOwn.of_raw hown9 (by simp) HN.out
  have hB9 := SOwn.below_grown (w0 := w) hOe (bel1 w _) hgr9
  clear hown9 hgr9 hOe
  go_wp2
  go_ret
  exact ⟨g, cp, by rw [HN.out]; rfl, hO9, hB9⟩
end Go.Proofs.Ytidppabconifkab
