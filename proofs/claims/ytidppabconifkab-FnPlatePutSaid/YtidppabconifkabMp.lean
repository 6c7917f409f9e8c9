/- A map of texts to bools that the call made: asked and written. -/
import Derived.Test.YtidppabconifkabRows
import Derived.Test.YtidppabconifkabHlp
import Derived.Maps.Own
import Derived.Maps.Views
import Derived.StringKeys
namespace Go.Proofs.Ytidppabconifkab
open Go Go.ChangeShapes Go.WideShapes Go.ChangeAt Go.RowKit Go.Maps Go.WideMaps Go.MapKept
set_option linter.unusedSimpArgs false
set_option linter.unusedVariables false

theorem keyS : Keyed Try.prog 9 := string_keyed Try.underlying9
theorem zeroB (w : World) : (zeroValue 4).run Try.prog w = .ok (.bool false) w := by kernel_rfl
/-- Block b is a map of at most n texts; what it says of each. -/
def TSet (w : World) (b n : Nat) (f : ByteArray → Bool) : Prop :=
  ∃ D : DataW Unit, IsMap D ∧ w.ownsMap Try.prog 9 (plainElem Try.prog 4) b n D ∧ ∀ s : ByteArray, s.size ≤ maxLen → D.atKey (.string s.data.toList) (.lit (.bool false)) = .lit (.bool (f s))
theorem TSet.made (w : World) : TSet (w.alloc (.map #[] 0)) w.heap.size 0 (fun _ => false) :=
  ⟨.map [], isMap_empty, World.ownsMap_made w _ _ _, fun s _ => WideAt.atKey_none _ (by simp)⟩
theorem TSet.next {w w' : World} {b n : Nat} {f : ByteArray → Bool} (h : TSet w b n f) (hw : Below w.heap.size w w') : TSet w' b n f := by
  obtain ⟨D, h1, h2, h3⟩ := h
  exact ⟨D, h1, h2.kept (row := none) ⟨hw.os, hw.tape, hw.output, hw.size, fun k hk _ => hw.block k hk⟩ (by simp), h3⟩
theorem TSet.alloc {w : World} {b n : Nat} {f : ByteArray → Bool} (h : TSet w b n f) (o : Obj) : TSet (w.alloc o) b n f := h.next (bel1 w o)
theorem TSet.lt {w : World} {b n : Nat} {f : ByteArray → Bool} (h : TSet w b n f) : b < w.heap.size := by
  obtain ⟨D, _, h2, _⟩ := h; exact h2.lt
set_option maxRecDepth 100000 in
theorem plain_bool_inv {v : Value} {z : DataW Unit × List MemPlace} (h : plainElem Try.prog 4 v = some z) : ∃ x, v = .bool x ∧ z = (.lit (.bool x), []) := by
  unfold plainElem at h
  rw [Try.underlying4] at h
  cases v <;> simp at h
  exact ⟨_, rfl, h.symm⟩
theorem TSet.run {w : World} {b n : Nat} {f : ByteArray → Bool} (h : TSet w b n f) (s : ByteArray) (hs : s.size ≤ maxLen) {r : Bool} (hr : f s = r) : (Instr.lookup 81 (.map (some b)) (.string s) false).run Try.prog w = .ok (.bool r) w := by
  obtain ⟨D, h1, h2, h3⟩ := h
  obtain ⟨v, ps, hrun, hv⟩ := h2.lookup keyS Try.underlying81 (zeroB w) (plainElem_bool Try.underlying4 false) (keyOf_string_mk Try.underlying9 hs)
  obtain ⟨x, rfl, hx⟩ := plain_bool_inv hv
  rw [h3 s hs] at hx
  simp only [Prod.mk.injEq, DataW.lit.injEq, Lit.bool.injEq] at hx
  rw [hrun, ← hx.1, hr]
theorem TSet.put {w' : World} {b n : Nat} {f : ByteArray → Bool} {D : DataW Unit} {s : ByteArray} (hs : s.size ≤ maxLen) (h1 : IsMap D) (h3 : ∀ s : ByteArray, s.size ≤ maxLen → D.atKey (.string s.data.toList) (.lit (.bool false)) = .lit (.bool (f s)))
    (h : w'.ownsMap Try.prog 9 (plainElem Try.prog 4) b (n + 1) (D.put (.string s.data.toList) (.lit (.bool true)))) : TSet w' b (n + 1) (fun u => decide (u = s) || f u) := by
  refine ⟨_, h1.put _ _, h, fun u hu => ?_⟩
  by_cases e : u = s
  · subst e
    rw [atKey_put_same h1 (by trivial)]; simp
  · have hne : (Lit.string u.data.toList) ≠ .string s.data.toList := by
      intro he
      simp only [Lit.string.injEq] at he
      apply e
      cases u; cases s
      simp at he
      simp [he]
    rw [atKey_put_other hne, h3 u hu]; simp [e]
end Go.Proofs.Ytidppabconifkab
