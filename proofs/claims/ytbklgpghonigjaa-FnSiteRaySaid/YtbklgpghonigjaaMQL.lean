/- QL: texts joined. -/
import Derived.Laws.Rows
import Derived.Laws.AppendOwn
import Derived.Test.YtbklgpghonigjaaMEb
namespace Go.Proofs.Ytbklgpghonigjaa
open Go Go.Deep Go.ChangeShapes Go.WideShapes Go.ChangeAt Go.RowKit
set_option linter.unusedSimpArgs false
set_option linter.unusedVariables false
theorem SOwn.ne_typeE {α : Type} {E : Enc α} {w : World} {base : Nat} {T T' : TypeId} {A : Option Addr} {cap n k : Nat} {xs : List α} {c : Array Value} {z : Nat × Nat} (h : SOwn E w base T A cap xs) (hk : w.heap[k]? = some (.cells c T' z)) (hT : T ≠ T') : Value.ownBlock (.slice A n cap) ≠ some k := by
  rcases h.2 with ⟨e, _⟩ | ⟨g, cap', cur, e, hb, hg, _⟩
  · simp only [Value.slice.injEq] at e
    rw [e.1]; simp [Value.ownBlock]
  · simp only [Value.slice.injEq] at e
    rw [e.1]
    simp only [Value.ownBlock, ne_eq]
    intro h2
    have e2 : g = k := by simpa using h2
    rw [e2, hk] at hg
    simp at hg
    exact hT hg.2.1.symm
theorem SOwn.far16 {α : Type} {E : Enc α} {w : World} {base b cap : Nat} {T : TypeId} {A : Option Addr} {xs : List α} {c : Array Value} {T' : TypeId} {z : Nat × Nat} (h : SOwn E w base T A cap xs) (hk : w.heap[b]? = some (.cells c T' z)) (hT : T ≠ T') (y0 y1 y2 y3 y4 y5 y6 y7 y8 y9 y10 y11 y12 y13 y14 y15 : Value) : SOwn E (World.setCell (World.setCell (World.setCell (World.setCell (World.setCell (World.setCell (World.setCell (World.setCell (World.setCell (World.setCell (World.setCell (World.setCell (World.setCell (World.setCell (World.setCell (World.setCell w ⟨b, 0, none⟩ y0) ⟨b, 1, none⟩ y1) ⟨b, 2, none⟩ y2) ⟨b, 3, none⟩ y3) ⟨b, 4, none⟩ y4) ⟨b, 5, none⟩ y5) ⟨b, 6, none⟩ y6) ⟨b, 7, none⟩ y7) ⟨b, 8, none⟩ y8) ⟨b, 9, none⟩ y9) ⟨b, 10, none⟩ y10) ⟨b, 11, none⟩ y11) ⟨b, 12, none⟩ y12) ⟨b, 13, none⟩ y13) ⟨b, 14, none⟩ y14) ⟨b, 15, none⟩ y15) base T A cap xs :=
  h.grown_far (row := some b) (setAll_grown [y0, y1, y2, y3, y4, y5, y6, y7, y8, y9, y10, y11, y12, y13, y14, y15] 0 ⟨rfl, rfl, rfl, Nat.le_refl _, fun _ _ _ => rfl⟩) (fun g hg e => by
    have := SOwn.ne_typeE (n := 0) h hk hT
    rw [hg] at this; simp [Value.ownBlock] at this e; exact this e.symm)
theorem SOwn.boxE {α : Type} {E : Enc α} {w : World} {base b i cap : Nat} {T : TypeId} {A : Option Addr} {xs : List α} {c : Array Value} {T' : TypeId} {z : Nat × Nat} (h : SOwn E w base T A cap xs) (hk : w.heap[b]? = some (.cells c T' z)) (hT : T ≠ T') (v : Value) : SOwn E (w.setCell ⟨b, i, none⟩ v) base T A cap xs :=
  h.grown_far (row := some b) (setAll_grown [v] i ⟨rfl, rfl, rfl, Nat.le_refl _, fun _ _ _ => rfl⟩) (fun g hg e => by
    have := SOwn.ne_typeE (n := 0) h hk hT
    rw [hg] at this; simp [Value.ownBlock] at this e; exact this e.symm)
end Go.Proofs.Ytbklgpghonigjaa
