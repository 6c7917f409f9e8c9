/- An argument that is a slice of pairs of numbers, opened. -/
import Derived.Test.YtibpaojhjgpdaaaSl
import Derived.Deep.Slices
import Derived.Deep.Fields
import Derived.ChangeSame
namespace Go.Proofs.Ytibpaojhjgpdaaa
open Go.ChangeShapes Go.WideShapes Go.ChangeAt Go.RowKit Go.Deep

section
variable {H : Type} {enc : TypeId × Value → H} {P : Program} {w : World} {base : Nat} {spare : Nat → Bool} {held : Bool}
theorem two_cells {e : TypeId} {f0 f1 : Field} {fuel : Nat} {cs : List Value} {x : DataW H × List MemPlace} (he : P.underlying e = some (.struct #[f0, f1])) (hone : oneCellFields P #[f0, f1] = true) (hC : P.cellsOf e = 2)
    (h0 : P.underlying f0.type = some (.int .i64)) (h1 : P.underlying f1.type = some (.int .i64)) (h : DataW.trod enc P w base spare held fuel e cs = some x) :
    ∃ p q : Int, cs = [.int .i64 p, .int .i64 q] := by
  obtain ⟨xs, n, _, _, hlen, hx, hf⟩ := DataW.trod_struct he h
  obtain ⟨o0, k0⟩ := hone_of hone 0 f0 rfl
  obtain ⟨o1, k1⟩ := hone_of hone 1 f1 rfl
  have g0 := hf 0 f0 rfl
  have g1 := hf 1 f1 rfl
  rw [o0, k0] at g0
  rw [o1, k1] at g1
  match cs, hlen.trans hC with
  | [c0, c1], _ =>
    match xs, hx with
    | [y0, y1], _ =>
      obtain ⟨p, hp, _⟩ := DataW.trod_int h0 g0
      obtain ⟨q, hq, _⟩ := DataW.trod_int h1 g1
      simp at hp hq
      exact ⟨p, q, by rw [hp, hq]⟩
theorem open_pairs {t e : TypeId} {f0 f1 : Field} {fuel : Nat} {cs : List Value} {x : DataW H × List MemPlace} (ht : P.underlying t = some (.slice e)) (he : P.underlying e = some (.struct #[f0, f1])) (hone : oneCellFields P #[f0, f1] = true) (hC : P.cellsOf e = 2)
    (h0 : P.underlying f0.type = some (.int .i64)) (h1 : P.underlying f1.type = some (.int .i64)) (h : DataW.trod enc P w base spare held fuel t cs = some x) :
    ∃ (A : Option Addr) (cap : Nat) (xs : List (Int × Int)), cs = [.slice A xs.length cap] ∧ xs.length ≤ maxLen ∧ WRow w A xs := by
  rcases open_slice ht h with ⟨rfl, _⟩ | ⟨a, len, cap, m, n, D, Pl, rfl, hb, hl, hm, hmm, hx, hi⟩
  · exact ⟨none, 0, [], rfl, by simp, .inl rfl⟩
  have hlm : len ≤ m := by rw [hmm]; split <;> omega
  have each : ∀ i, ∃ p : Int × Int, i < len → w.cell? (a.add (i * 2)) = some (.int .i64 p.1) ∧ w.cell? (a.add (i * 2 + 1)) = some (.int .i64 p.2) := by
    intro i
    by_cases hlt : i < len
    · obtain ⟨cs', hc, ht'⟩ := hi i (by omega)
      obtain ⟨p, q, rfl⟩ := two_cells he hone hC h0 h1 ht'
      rw [hC] at hc
      obtain ⟨_, _, hat⟩ := World.cells?_some hc
      have e0 := hat 0 (by omega)
      have e1 := hat 1 (by omega)
      rw [add_add] at e0 e1
      exact ⟨(p, q), fun _ => ⟨by simpa using e0, by simpa using e1⟩⟩
    · exact ⟨(0, 0), fun h => absurd h hlt⟩
  obtain ⟨f, hf⟩ := Classical.axiomOfChoice each
  refine ⟨some a, cap, (List.range len).map f, by simp, by simp; omega, ?_⟩
  by_cases hz : len = 0
  · subst hz; exact .inl rfl
  right
  obtain ⟨b, off, sp⟩ := a
  have hsp : sp = none := by
    have h := (hf 0 (by omega)).1
    cases sp with
    | none => rfl
    | some q =>
      simp only [Addr.add, Nat.zero_mul, if_true, World.cell?] at h
      split at h <;> simp at h
  subst hsp
  refine ⟨b, off, rfl, fun i hi => ?_⟩
  simp at hi
  obtain ⟨g0, g1⟩ := hf i hi
  have ea : ∀ j, (Addr.mk b off none).add j = ⟨b, off + j, none⟩ := by
    intro j; unfold Addr.add; split
    · rename_i e; subst e; rfl
    · rfl
  rw [ea] at g0 g1
  exact ⟨by simpa using g0, by simpa [Nat.add_assoc] using g1⟩
end
end Go.Proofs.Ytibpaojhjgpdaaa
