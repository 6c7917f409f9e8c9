/- What the draws of chapter 7 lean on. -/
import Derived.Test.YtoklehmoeollfaaRdU
import Derived.Test.YtoklehmoeollfaaLp
import Derived.Laws.AppendOwn
import Derived.Test.YtoklehmoeollfaaGNum
namespace Go.Proofs.Ytoklehmoeollfaa
open Go Go.ChangeShapes Go.WideShapes Go.ChangeAt Go.RowKit
set_option linter.unusedSimpArgs false
set_option linter.unusedVariables false

theorem SOwn.extK {α : Type} {E : Enc α} {w w' : World} {base B : Nat} {T : TypeId} {A : Option Addr} {cap : Nat} {xs : List α} (h : SOwn E w base T A cap xs) (hx : Ext B w w') (hB : B < base) : SOwn E w' base T A cap xs := by
  refine h.grown_far (row := some B) ⟨hx.os, hx.tape, hx.output, hx.size, fun k hk hne => hx.block k hk (fun e => hne (by rw [e]))⟩ (fun g hg e => ?_)
  rcases h.form with ⟨e2, _⟩ | ⟨g2, e2, hb, _⟩
  · rw [e2] at hg; cases hg
  · rw [e2] at hg; cases hg; cases e; omega
theorem RdU.farK {B : Nat} {u : Int} {w w' : World} {row : Option Nat} (h : RdU B u w) (hg : w.grownBy w' row) (hne : ∀ k, row = some k → B < k) : RdU B u w' := by
  obtain ⟨sl, p, h1, h2, h3, h4⟩ := h
  have hb := hg.block B (blk_lt h1) (fun e => by have := hne B e.symm; omega)
  refine ⟨sl, p, by rw [hb]; exact h1, h2, h3, ?_⟩
  rcases h4 with h4 | ⟨b, off, len, cap, e, k1, k2, k3, k4⟩
  · exact .inl h4
  · refine .inr ⟨b, off, len, cap, e, k1, k2, k3, ?_⟩
    intro i hi
    obtain ⟨v, q1, q2⟩ := k4 i hi
    have hb2 := hg.block b (World.block_lt_of_cell? w _ q1) (fun e => by have := hne b e.symm; omega)
    refine ⟨v, ?_, q2⟩
    simp only [World.cell?] at q1 ⊢
    rw [hb2]; exact q1
theorem SOwn.ge_baseK {α : Type} {E : Enc α} {w : World} {base : Nat} {T : TypeId} {A : Option Addr} {cap n : Nat} {xs : List α} (h : SOwn E w base T A cap xs) : ∀ k, Value.ownBlock (.slice A n cap) = some k → base ≤ k := by
  intro k hk
  rcases h.form with ⟨rfl, _⟩ | ⟨g, rfl, hb, _⟩
  · simp [Value.ownBlock] at hk
  · simp [Value.ownBlock] at hk; omega
theorem Ext.far_grownK {B : Nat} {a w w' : World} {row : Option Nat} (h : Ext B a w) (hg : w.grownBy w' row) (hr : ∀ k, row = some k → a.heap.size ≤ k) : Ext B a w' :=
  ⟨hg.os.trans h.os, hg.tape.trans h.tape, hg.output.trans h.output, Nat.le_trans h.size hg.size, fun k hk hne => (hg.block k (Nat.lt_of_lt_of_le hk h.size) (fun e => by have := hr k e.symm; omega)).trans (h.block k hk hne)⟩
theorem own_valK {w : World} {base size n : Nat} {T : TypeId} {v : Value} {L : List Value} (h : w.ownsRow base T size v n L) : ∃ A cap, v = .slice A n cap := by
  rcases h.2 with ⟨e, e0⟩ | ⟨g, cap', cur, e, _⟩
  · exact ⟨none, 0, by rw [e, e0]⟩
  · exact ⟨_, _, e⟩
theorem SRow.newsK {α : Type} {E : Enc α} {w : World} {ad : Addr} {xs : List α} (h : SRow E w (some ad) xs) : ∀ j u, (E.flat xs)[j]? = some u → w.cell? (ad.add j) = some u := by
  intro j u hu
  rcases h with rfl | ⟨b, off, e, hc⟩
  · simp [E.flat_nil] at hu
  · obtain rfl := Option.some.inj e
    have hk := E.pos
    have hj : j < xs.length * E.k := by
      have := (List.getElem?_eq_some_iff.1 hu).1
      rwa [E.flat_len] at this
    have hq : j / E.k < xs.length := by rw [Nat.div_lt_iff_lt_mul hk]; exact hj
    have hm : j / E.k * E.k + j % E.k = j := by rw [Nat.mul_comm]; exact Nat.div_add_mod j E.k
    have e1 := E.flat_at xs (j / E.k) hq (j % E.k) (Nat.mod_lt j hk)
    rw [hm, hu] at e1
    have := hc (j / E.k) hq (j % E.k) u e1.symm
    rw [hm] at this
    unfold Addr.add
    split
    · rename_i e; subst e; exact this
    · exact this
theorem SOwn.tailK {α : Type} {E : Enc α} {w : World} {base g cap : Nat} {T : TypeId} {xs : List α} (h : SOwn E w base T (some ⟨g, 0, none⟩) cap xs) : SRow E w (some ⟨g, E.k, none⟩) (xs.drop 1) := by
  refine .inr ⟨g, E.k, rfl, fun i hi j v hv => ?_⟩
  have hi2 : i + 1 < xs.length := by rw [List.length_drop] at hi; omega
  have := h.cell (i + 1) hi2 j v (by simpa [Nat.add_comm] using hv)
  rw [show E.k + (i * E.k + j) = (i + 1) * E.k + j by rw [Nat.add_mul]; omega]
  exact this
theorem blk_drw {w : World} {k : Nat} {o : Obj} (h : w.heap[k]? = some o) : w.drew.heap[k]? = some o := h
theorem RdU.drw {B : Nat} {u : Int} {w : World} (h : RdU B u w) : RdU B u w.drew := h
theorem Ext.drw {B : Nat} {a w : World} (h : Ext B a w) : Ext B a w.drew := h.drewN 1
end Go.Proofs.Ytoklehmoeollfaa
