/- An argument that is a slice of structs, opened. -/
import Derived.Test.YtigndpajpofofaaGs
import Derived.Deep.Slices
import Derived.Deep.Fields
import Derived.ChangeSame
namespace Go.Proofs.Ytigndpajpofofaa
open Go.ChangeShapes Go.WideShapes Go.ChangeAt Go.RowKit Go.Deep
set_option linter.unusedVariables false

section
variable {H : Type} {enc : TypeId × Value → H} {P : Program} {w : World} {base : Nat} {spare : Nat → Bool} {held : Bool}
theorem open_structs {α : Type} (E : Enc α) (d0 : α) (Q : α → Prop) {t e : TypeId} {fuel : Nat} {cs : List Value} {x : DataW H × List MemPlace} (ht : P.underlying t = some (.slice e)) (hC : P.cellsOf e = E.k)
    (dec : ∀ fuel cs x, DataW.trod enc P w base spare held fuel e cs = some x → ∃ v, cs = E.enc v ∧ Q v) (h : DataW.trod enc P w base spare held fuel t cs = some x) :
    ∃ (A : Option Addr) (cap : Nat) (xs : List α), cs = [.slice A xs.length cap] ∧ xs.length ≤ maxLen ∧ SRow E w A xs ∧ ∀ v ∈ xs, Q v := by
  rcases open_slice ht h with ⟨rfl, _⟩ | ⟨a, len, cap, m, n, D, Pl, rfl, hb, hl, hm, hmm, hx, hi⟩
  · exact ⟨none, 0, [], rfl, by simp, .inl rfl, by simp⟩
  have hlm : len ≤ m := by rw [hmm]; split <;> omega
  have each : ∀ i, ∃ v : α, i < len → Q v ∧ ∀ j u, (E.enc v)[j]? = some u → w.cell? (a.add (i * E.k + j)) = some u := by
    intro i
    by_cases hlt : i < len
    · obtain ⟨cs', hc, ht'⟩ := hi i (by omega)
      obtain ⟨v, rfl, hq⟩ := dec _ _ _ ht'
      rw [hC] at hc
      obtain ⟨_, _, hat⟩ := World.cells?_some hc
      refine ⟨v, fun _ => ⟨hq, fun j u hu => ?_⟩⟩
      have hj : j < E.k := by
        have := (List.getElem?_eq_some_iff.1 hu).1
        rwa [E.len] at this
      have e0 := hat j hj
      rw [add_add] at e0
      rw [e0]; exact hu
    · exact ⟨d0, fun h => absurd h hlt⟩
  obtain ⟨f, hf⟩ := Classical.axiomOfChoice each
  refine ⟨some a, cap, (List.range len).map f, by simp, by simp; omega, ?_, ?_⟩
  · by_cases hz : len = 0
    · subst hz; exact .inl rfl
    right
    obtain ⟨b, off, sp⟩ := a
    have hsp : sp = none := by
      obtain ⟨u, hu⟩ := enc_first (E := E) (f 0)
      have h := (hf 0 (by omega)).2 0 u hu
      cases sp with
      | none => rfl
      | some q =>
        simp only [Addr.add, Nat.zero_mul, if_true, World.cell?] at h
        split at h <;> simp at h
    subst hsp
    refine ⟨b, off, rfl, fun i hi j v hv => ?_⟩
    simp at hi
    simp only [List.getElem_map, List.getElem_range] at hv
    have g0 := (hf i hi).2 j v hv
    have ea : ∀ j, (Addr.mk b off none).add j = ⟨b, off + j, none⟩ := by
      intro j; unfold Addr.add; split
      · rename_i e; subst e; rfl
      · rfl
    rw [ea] at g0
    exact g0
  · intro v hv
    obtain ⟨i, hi, rfl⟩ := List.mem_map.1 hv
    exact (hf i (by simpa using hi)).1
/-- A number that its kind holds. -/
def Wf (z : Int) : Prop := (Lit.int .i64 z).wf = true
/-- A struct whose fields are numbers, one cell each. -/
def allInts (P : Program) (fs : Array Field) : Bool := fs.toList.all fun f => match P.underlying f.type with | some (.int .i64) => true | _ => false
theorem allInts_at {P : Program} {fs : Array Field} (h : allInts P fs = true) {i : Nat} {f : Field} (hf : fs[i]? = some f) : P.underlying f.type = some (.int .i64) := by
  unfold allInts at h
  rw [List.all_eq_true] at h
  have := h f (by
    rw [← Array.getElem?_toList] at hf
    exact List.mem_of_getElem? hf)
  split at this <;> simp_all
theorem int_cells {e : TypeId} {fs : Array Field} {fuel : Nat} {cs : List Value} {x : DataW H × List MemPlace} (he : P.underlying e = some (.struct fs)) (hone : oneCellFields P fs = true) (hint : allInts P fs = true) (hC : P.cellsOf e = fs.size)
    (h : DataW.trod enc P w base spare held fuel e cs = some x) : ∃ zs : List Int, zs.length = fs.size ∧ cs = zs.map (Value.int .i64) ∧ ∀ z ∈ zs, Wf z := by
  obtain ⟨xs, n, _, _, hlen, hx, hf⟩ := DataW.trod_struct he h
  have each : ∀ i : Nat, ∃ z : Int, i < fs.size → cs[i]? = some (.int .i64 z) ∧ Wf z := by
    intro i
    by_cases hi : i < fs.size
    · have hfi : fs[i]? = some fs[i] := Array.getElem?_eq_getElem hi
      obtain ⟨o0, k0⟩ := hone_of hone i fs[i] hfi
      have g0 := hf i fs[i] hfi
      rw [o0, k0] at g0
      have hci : i < cs.length := by omega
      rw [List.drop_eq_getElem_cons hci, List.take_succ_cons, List.take_zero] at g0
      cases hxi : xs[i]? with
      | none => rw [List.getElem?_eq_none_iff] at hxi; omega
      | some y =>
        rw [hxi] at g0
        obtain ⟨p, hp, _, hw⟩ := DataW.trod_int (allInts_at hint hfi) g0
        simp at hp
        exact ⟨p, fun _ => ⟨by rw [List.getElem?_eq_getElem hci, hp], hw⟩⟩
    · exact ⟨0, fun h => absurd h hi⟩
  obtain ⟨f, hf2⟩ := Classical.axiomOfChoice each
  refine ⟨(List.range fs.size).map f, by simp, ?_, ?_⟩
  · apply List.ext_getElem?
    intro i
    by_cases hi : i < fs.size
    · rw [(hf2 i hi).1]; simp [hi]
    · rw [List.getElem?_eq_none (by omega), List.getElem?_eq_none (by simp; omega)]
  · intro z hz
    obtain ⟨i, hi, rfl⟩ := List.mem_map.1 hz
    exact (hf2 i (by simpa using hi)).2
/-- A struct that comes in by value. -/
theorem open_struct {α : Type} (E : Enc α) (Q : α → Prop) {r : Reach} {b0 : Nat} {t : TypeId} {fs : Array Field} {v : Value} {d : DataW H} {p : List MemPlace} (hs : P.underlying t = some (.struct fs))
    (dec : ∀ fuel cs x, DataW.trod enc P w base spare held fuel t cs = some x → ∃ v, cs = E.enc v ∧ Q v)
    (hv : Value.okWide P w r b0 t v) (h : DataW.Trod enc P w base spare held t v d p) : ∃ x : α, v = .agg (E.enc x).toArray ∧ Q x := by
  obtain ⟨cs, rfl, hsz⟩ := okWide_struct hs hv
  obtain ⟨fuel, hf⟩ := h
  obtain ⟨x, hx, hq⟩ := dec _ _ _ hf
  refine ⟨x, ?_, hq⟩
  have e : cs.toList = E.enc x := by simpa [Value.cells] using hx
  rw [← e]
end
end Go.Proofs.Ytigndpajpofofaa
