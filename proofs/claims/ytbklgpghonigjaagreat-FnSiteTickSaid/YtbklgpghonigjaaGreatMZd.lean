/- Zd: texts joined. -/
import Derived.Test.YtbklgpghonigjaaGreatMQN
import Derived.Laws.AppendOwn
import Derived.Test.YtbklgpghonigjaaGreatMQC
namespace Go.Proofs.YtbklgpghonigjaaGreat
open Go Go.ChangeShapes Go.WideShapes Go.ChangeAt Go.RowKit
set_option linter.unusedSimpArgs false
set_option linter.unusedVariables false
theorem SOwn.extK {α : Type} {E : Enc α} {w w' : World} {base B : Nat} {T : TypeId} {A : Option Addr} {cap : Nat} {xs : List α} (h : SOwn E w base T A cap xs) (hx : Ext B w w') (hB : B < base) : SOwn E w' base T A cap xs := by
  refine h.grown_far (row := some B) ⟨hx.os, hx.tape, hx.output, hx.size, fun k hk hne => hx.block k hk (fun e => hne (by rw [e]))⟩ (fun g hg e => ?_)
  rcases h.form with ⟨e2, _⟩ | ⟨g2, e2, hb, _⟩
  · rw [e2] at hg; cases hg
  · rw [e2] at hg; cases hg; cases e; omega
theorem blk_drw {w : World} {k : Nat} {o : Obj} (h : w.heap[k]? = some o) : w.drew.heap[k]? = some o := h
theorem RdU.drw {B : Nat} {u : Int} {w : World} (h : RdU B u w) : RdU B u w.drew := h
theorem Ext.drw {B : Nat} {a w : World} (h : Ext B a w) : Ext B a w.drew := h.drewN 1
end Go.Proofs.YtbklgpghonigjaaGreat
