/- Between two ways: what the law asks. -/
import Derived.Test.YtjdaeijhhnaimabWt
namespace Go.Proofs.Ytjdaeijhhnaimab
open Go.ChangeShapes Go.WideShapes Go.ChangeAt Go.RowKit
set_option linter.unusedVariables false
theorem ws3_mk {u1 u2 f1 f2 t1 t2 : Int} (hu : goB u1 u2 = true) (hf : goB f1 f2 = true) (ht : goB t1 t2 = true) : wsB [(u1, u2), (f1, f2), (t1, t2)] = true := by
  unfold wsB; simp [goP, hu, hf, ht]
theorem sw_self {a b : Int} (h : goB a b = true) : swB a b a b = true := by
  have g := goB_iff.1 h
  rw [swB_iff]
  exact ⟨wvB_iff.2 g.1, wvB_iff.2 g.1, cross_self a b, sq_pos g.2⟩
theorem bt_self {f1 f2 t1 t2 : Int} (hf : goB f1 f2 = true) (ht : goB t1 t2 = true) : btR f1 f2 f1 f2 t1 t2 = true := by
  unfold btR btB; rw [ws3_mk hf hf ht, sw_self hf]; rfl
theorem sw_comm (a b c d : Int) : swB a b c d = swB c d a b := by
  rw [Bool.eq_iff_iff, swB_iff, swB_iff, cross_anti a b c d]
  have e : c * a + d * b = a * c + b * d := by grind
  rw [e]
  constructor <;> rintro ⟨h1, h2, h3, h4⟩ <;> exact ⟨h2, h1, by omega, h4⟩
theorem bt_to {f1 f2 t1 t2 : Int} (hf : goB f1 f2 = true) (ht : goB t1 t2 = true) (h : swB f1 f2 t1 t2 = false) : btR t1 t2 f1 f2 t1 t2 = false := by
  unfold btR btB
  rw [ws3_mk ht hf ht, sw_comm t1 t2 f1 f2, h]
  have : befB (tE t1 t2 f1 (-f2)) (tN t1 t2 f1 (-f2)) (tE t1 t2 f1 (-f2)) (tN t1 t2 f1 (-f2)) = false := by
    rw [Bool.eq_false_iff]; intro k; exact bef_irrefl _ _ (befB_iff.1 k)
  rw [this]; rfl
theorem bt_bef (u1 u2 f1 f2 t1 t2 : Int) : befB (tE u1 u2 f1 (-f2)) (tN u1 u2 f1 (-f2)) (tE t1 t2 f1 (-f2)) (tN t1 t2 f1 (-f2)) = decide (Bef (u1 * f1 + u2 * f2) (u2 * f1 - u1 * f2) (t1 * f1 + t2 * f2) (t2 * f1 - t1 * f2)) := by
  have e1 : tE u1 u2 f1 (-f2) = u1 * f1 + u2 * f2 := by unfold tE; grind
  have e2 : tN u1 u2 f1 (-f2) = u2 * f1 - u1 * f2 := by unfold tN; grind
  have e3 : tE t1 t2 f1 (-f2) = t1 * f1 + t2 * f2 := by unfold tE; grind
  have e4 : tN t1 t2 f1 (-f2) = t2 * f1 - t1 * f2 := by unfold tN; grind
  rw [e1, e2, e3, e4]; rfl
theorem bt_other {u1 u2 f1 f2 t1 t2 : Int} (hv : wsB [(u1, u2), (f1, f2), (t1, t2)] = true) (h1 : swB u1 u2 f1 f2 = false) (h2 : swB u1 u2 t1 t2 = false) (h3 : swB f1 f2 t1 t2 = false) :
    btR u1 u2 t1 t2 f1 f2 = !btR u1 u2 f1 f2 t1 t2 := by
  obtain ⟨hu, hf, ht⟩ := ws3 hv
  have k := btw_not hu hf ht h1 h2 h3
  unfold btR btB
  rw [hv, ws3_mk hu ht hf, h1, h2, bt_bef, bt_bef]
  by_cases p : Bef (u1 * f1 + u2 * f2) (u2 * f1 - u1 * f2) (t1 * f1 + t2 * f2) (t2 * f1 - t1 * f2)
  · have q := k.1 p
    simp [p, q]
  · have q : Bef (u1 * t1 + u2 * t2) (u2 * t1 - u1 * t2) (f1 * t1 + f2 * t2) (f2 * t1 - f1 * t2) := Classical.byContradiction fun n => p (k.2 n)
    simp [p, q]
theorem iBt_is {u1 u2 f1 f2 t1 t2 : Int} {r : Bool} (w : World) (h : btR u1 u2 f1 f2 t1 t2 = r) : Calls Try.prog 22 #[.agg #[.int .i64 u1, .int .i64 u2], .agg #[.int .i64 f1, .int .i64 f2], .agg #[.int .i64 t1, .int .i64 t2]] w fun e w' => e = .returned (.bool r) ∧ Below w.heap.size w w' := by
  subst h; exact iBt_any u1 u2 f1 f2 t1 t2 w
theorem iSW_is {a b c d : Int} {r : Bool} (w : World) (h : swB a b c d = r) : Calls Try.prog 21 #[.agg #[.int .i64 a, .int .i64 b], .agg #[.int .i64 c, .int .i64 d]] w fun e w' => e = .returned (.bool r) ∧ Below w.heap.size w w' := by
  subst h; exact iSW_any a b c d w
end Go.Proofs.Ytjdaeijhhnaimab
