/- QD: texts joined. -/
import Derived.Test.YtbklgpghonigjaaGreatMQA
import Derived.Test.YtbklgpghonigjaaGreatRows
import Derived.Test.YtbklgpghonigjaaGreatMQC
namespace Go.Proofs.YtbklgpghonigjaaGreat
open Go Go.ChangeShapes Go.WideShapes Go.ChangeAt Go.RowKit
set_option linter.unusedSimpArgs false
set_option linter.unusedVariables false
theorem blk4 {w : World} {b : Nat} {x0 x1 x2 x3 : Value} {t : TypeId} (h : w.heap[b]? = some (.cells #[x0, x1, x2, x3] t (0, 0))) :
    w.cell? ⟨b, 0, none⟩ = some x0 ∧ w.cell? ⟨b, 1, none⟩ = some x1 ∧ w.cell? ⟨b, 2, none⟩ = some x2 ∧ w.cell? ⟨b, 3, none⟩ = some x3 ∧ w.frozen? ⟨b, 0, none⟩ = false ∧ w.frozen? ⟨b, 1, none⟩ = false ∧ w.frozen? ⟨b, 2, none⟩ = false ∧ w.frozen? ⟨b, 3, none⟩ = false ∧ b < w.heap.size :=
  ⟨by simp [World.cell?, h], by simp [World.cell?, h], by simp [World.cell?, h], by simp [World.cell?, h], by simp [World.frozen?, h], by simp [World.frozen?, h], by simp [World.frozen?, h], by simp [World.frozen?, h], blk_lt h⟩
theorem blk5 {w : World} {b : Nat} {x0 x1 x2 x3 x4 : Value} {t : TypeId} (h : w.heap[b]? = some (.cells #[x0, x1, x2, x3, x4] t (0, 0))) :
    w.cell? ⟨b, 0, none⟩ = some x0 ∧ w.cell? ⟨b, 1, none⟩ = some x1 ∧ w.cell? ⟨b, 2, none⟩ = some x2 ∧ w.cell? ⟨b, 3, none⟩ = some x3 ∧ w.cell? ⟨b, 4, none⟩ = some x4 ∧ w.frozen? ⟨b, 0, none⟩ = false ∧ w.frozen? ⟨b, 1, none⟩ = false ∧ w.frozen? ⟨b, 2, none⟩ = false ∧ w.frozen? ⟨b, 3, none⟩ = false ∧ w.frozen? ⟨b, 4, none⟩ = false ∧ b < w.heap.size :=
  ⟨by simp [World.cell?, h], by simp [World.cell?, h], by simp [World.cell?, h], by simp [World.cell?, h], by simp [World.cell?, h], by simp [World.frozen?, h], by simp [World.frozen?, h], by simp [World.frozen?, h], by simp [World.frozen?, h], by simp [World.frozen?, h], blk_lt h⟩
theorem blk_at {w : World} {C : Nat} {t : TypeId} (i : Nat) (v : Value) (cs : Array Value) (h : w.heap[C]? = some (.cells cs t (0, 0))) : (w.setCell ⟨C, i, none⟩ v).heap[C]? = some (.cells (cs.setIfInBounds i v) t (0, 0)) := by
  simp [World.setCell, Array.getElem?_modify, h]
theorem blk4_put {w : World} {C : Nat} {x0 x1 x2 x3 y0 y1 y2 y3 : Value} {t : TypeId} (h : w.heap[C]? = some (.cells #[x0, x1, x2, x3] t (0, 0))) : ((((w.setCell ⟨C, 0, none⟩ y0).setCell ⟨C, 1, none⟩ y1).setCell ⟨C, 2, none⟩ y2).setCell ⟨C, 3, none⟩ y3).heap[C]? = some (.cells #[y0, y1, y2, y3] t (0, 0)) := by
  have := blk_at 3 y3 _ (blk_at 2 y2 _ (blk_at 1 y1 _ (blk_at 0 y0 _ (h))))
  rw [this]; simp
theorem blk_store4 {w : World} {k C : Nat} {o : Obj} (h : w.heap[k]? = some o) (hne : k ≠ C) (y0 y1 y2 y3 : Value) : ((((w.setCell ⟨C, 0, none⟩ y0).setCell ⟨C, 1, none⟩ y1).setCell ⟨C, 2, none⟩ y2).setCell ⟨C, 3, none⟩ y3).heap[k]? = some o :=
  blk_far (blk_far (blk_far (blk_far (h) hne y0) hne y1) hne y2) hne y3
theorem store4_bel {w0 w : World} {C : Nat} (h : Below w0.heap.size w0 w) (hC : w0.heap.size ≤ C) (y0 y1 y2 y3 : Value) : Below w0.heap.size w0 ((((w.setCell ⟨C, 0, none⟩ y0).setCell ⟨C, 1, none⟩ y1).setCell ⟨C, 2, none⟩ y2).setCell ⟨C, 3, none⟩ y3) :=
  ((((h).setCell (p := ⟨C, 0, none⟩) hC y0).setCell (p := ⟨C, 1, none⟩) hC y1).setCell (p := ⟨C, 2, none⟩) hC y2).setCell (p := ⟨C, 3, none⟩) hC y3
end Go.Proofs.YtbklgpghonigjaaGreat
namespace Go.Proofs.YtbklgpghonigjaaGreat
set_option linter.unusedVariables false
set_option linter.unusedSimpArgs false
def inV (n a b : Int) : Bool := decide (a ≤ n ∧ n ≤ b)
def plB (e n : Int) : Bool := decide (-50 ≤ e ∧ e ≤ 50 ∧ -50 ≤ n ∧ n ≤ 50)
def blB (a b c d h : Int) : Bool := decide (-50 ≤ a ∧ a < b ∧ b ≤ 50 ∧ -50 ≤ c ∧ c < d ∧ d ≤ 50 ∧ 1 ≤ h ∧ h ≤ 30)
def ryB (e n u : Int) : Bool := decide (-20 ≤ e ∧ e ≤ 20 ∧ -20 ≤ n ∧ n ≤ 20 ∧ 1 ≤ u ∧ u ≤ 20)
theorem plB_iff {e n : Int} : plB e n = true ↔ -50 ≤ e ∧ e ≤ 50 ∧ -50 ≤ n ∧ n ≤ 50 := by unfold plB; simp
theorem blB_iff {a b c d h : Int} : blB a b c d h = true ↔ -50 ≤ a ∧ a < b ∧ b ≤ 50 ∧ -50 ≤ c ∧ c < d ∧ d ≤ 50 ∧ 1 ≤ h ∧ h ≤ 30 := by unfold blB; simp
theorem ryB_iff {e n u : Int} : ryB e n u = true ↔ -20 ≤ e ∧ e ≤ 20 ∧ -20 ≤ n ∧ n ≤ 20 ∧ 1 ≤ u ∧ u ≤ 20 := by unfold ryB; simp
/-- The start and the end, over a denominator, of the fractions for which a number that begins with p and grows by r stays in lo..hi. -/
def sN (p r lo hi : Int) : Int := if 0 < r then lo - p else if r < 0 then p - hi else if lo ≤ p ∧ p ≤ hi then 0 else 1
def eN (p r lo hi : Int) : Int := if 0 < r then hi - p else if r < 0 then p - lo else if lo ≤ p ∧ p ≤ hi then 30 else 0
def dN (r : Int) : Int := if 0 < r then r else if r < 0 then -r else 1
theorem dN_pos (r : Int) : 0 < dN r := by unfold dN; split <;> (try split) <;> omega
theorem dN_le {r : Int} (h0 : -20 ≤ r) (h1 : r ≤ 20) : dN r ≤ 20 := by unfold dN; split <;> (try split) <;> omega
theorem sN_bd {p r lo hi : Int} (h0 : -50 ≤ p) (h1 : p ≤ 50) (h2 : -50 ≤ lo) (h3 : lo ≤ 50) (h4 : -50 ≤ hi) (h5 : hi ≤ 50) : -100 ≤ sN p r lo hi ∧ sN p r lo hi ≤ 100 := by
  unfold sN; split <;> (try split) <;> (try split) <;> omega
theorem eN_bd {p r lo hi : Int} (h0 : -50 ≤ p) (h1 : p ≤ 50) (h2 : -50 ≤ lo) (h3 : lo ≤ 50) (h4 : -50 ≤ hi) (h5 : hi ≤ 50) : -100 ≤ eN p r lo hi ∧ eN p r lo hi ≤ 100 := by
  unfold eN; split <;> (try split) <;> (try split) <;> omega
/-- A fraction is at most another one. -/
def Le (s d e f : Int) : Prop := s * f ≤ e * d
instance (s d e f : Int) : Decidable (Le s d e f) := by unfold Le; infer_instance
theorem Le.trans {a b c d e f : Int} (hb : 0 < b) (hd : 0 < d) (hf : 0 < f) (h1 : Le a b c d) (h2 : Le c d e f) : Le a b e f := by
  unfold Le at *
  have e1 := Int.mul_le_mul_of_nonneg_right h1 (Int.le_of_lt hf)
  have e2 := Int.mul_le_mul_of_nonneg_right h2 (Int.le_of_lt hb)
  refine Int.le_of_mul_le_mul_right (a := d) ?_ hd
  have q1 : a * f * d = a * d * f := by grind
  have q2 : e * b * d = e * d * b := by grind
  have q3 : c * b * f = c * f * b := by grind
  rw [q1, q2]; omega
theorem Le.refl (a b : Int) : Le a b a b := by unfold Le; omega
def maxF (x y : Int × Int) : Int × Int := if x.1 * y.2 < y.1 * x.2 then y else x
def minF (x y : Int × Int) : Int × Int := if y.1 * x.2 < x.1 * y.2 then y else x
theorem maxF_cases (x y : Int × Int) : (maxF x y = x ∧ Le y.1 y.2 x.1 x.2) ∨ (maxF x y = y ∧ Le x.1 x.2 y.1 y.2) := by
  unfold maxF Le; split
  · exact .inr ⟨rfl, by omega⟩
  · exact .inl ⟨rfl, by omega⟩
theorem minF_cases (x y : Int × Int) : (minF x y = x ∧ Le x.1 x.2 y.1 y.2) ∨ (minF x y = y ∧ Le y.1 y.2 x.1 x.2) := by
  unfold minF Le; split
  · exact .inr ⟨rfl, by omega⟩
  · exact .inl ⟨rfl, by omega⟩
theorem maxF_pos {x y : Int × Int} (hx : 0 < x.2) (hy : 0 < y.2) : 0 < (maxF x y).2 := by unfold maxF; split <;> assumption
theorem minF_pos {x y : Int × Int} (hx : 0 < x.2) (hy : 0 < y.2) : 0 < (minF x y).2 := by unfold minF; split <;> assumption
/-- At most the greater one's limit: both are. -/
theorem maxF_le {x y : Int × Int} (hx : 0 < x.2) (hy : 0 < y.2) {e f : Int} (hf : 0 < f) : Le (maxF x y).1 (maxF x y).2 e f ↔ Le x.1 x.2 e f ∧ Le y.1 y.2 e f := by
  rcases maxF_cases x y with ⟨h, g⟩ | ⟨h, g⟩ <;> rw [h]
  · exact ⟨fun k => ⟨k, Le.trans hy hx hf g k⟩, fun k => k.1⟩
  · exact ⟨fun k => ⟨Le.trans hx hy hf g k, k⟩, fun k => k.2⟩
theorem le_minF {x y : Int × Int} (hx : 0 < x.2) (hy : 0 < y.2) {s d : Int} (hd : 0 < d) : Le s d (minF x y).1 (minF x y).2 ↔ Le s d x.1 x.2 ∧ Le s d y.1 y.2 := by
  rcases minF_cases x y with ⟨h, g⟩ | ⟨h, g⟩ <;> rw [h]
  · exact ⟨fun k => ⟨k, Le.trans hd hx hy k g⟩, fun k => k.1⟩
  · exact ⟨fun k => ⟨Le.trans hd hy hx k g, k⟩, fun k => k.2⟩
/-- Each start of three intervals is at most each end. -/
def Prs (s1 e1 d1 s2 e2 d2 s3 e3 d3 : Int) : Prop :=
  (Le s1 d1 e1 d1 ∧ Le s1 d1 e2 d2 ∧ Le s1 d1 e3 d3) ∧ (Le s2 d2 e1 d1 ∧ Le s2 d2 e2 d2 ∧ Le s2 d2 e3 d3) ∧ (Le s3 d3 e1 d1 ∧ Le s3 d3 e2 d2 ∧ Le s3 d3 e3 d3)
instance (s1 e1 d1 s2 e2 d2 s3 e3 d3 : Int) : Decidable (Prs s1 e1 d1 s2 e2 d2 s3 e3 d3) := by unfold Prs; infer_instance
def topF (s1 d1 s2 d2 s3 d3 : Int) : Int × Int := maxF (maxF (s1, d1) (s2, d2)) (s3, d3)
def lowF (e1 d1 e2 d2 e3 d3 : Int) : Int × Int := minF (minF (e1, d1) (e2, d2)) (e3, d3)
theorem prs_iff {s1 e1 d1 s2 e2 d2 s3 e3 d3 : Int} (h1 : 0 < d1) (h2 : 0 < d2) (h3 : 0 < d3) :
    Le (topF s1 d1 s2 d2 s3 d3).1 (topF s1 d1 s2 d2 s3 d3).2 (lowF e1 d1 e2 d2 e3 d3).1 (lowF e1 d1 e2 d2 e3 d3).2 ↔ Prs s1 e1 d1 s2 e2 d2 s3 e3 d3 := by
  have m1 : 0 < (maxF (s1, d1) (s2, d2)).2 := maxF_pos h1 h2
  have n1 : 0 < (minF (e1, d1) (e2, d2)).2 := minF_pos h1 h2
  have n2 : 0 < (lowF e1 d1 e2 d2 e3 d3).2 := minF_pos n1 h3
  have k3 : 0 < ((s3, d3) : Int × Int).2 := h3
  have j3 : 0 < ((e3, d3) : Int × Int).2 := h3
  have k2 : 0 < ((s2, d2) : Int × Int).2 := h2
  have k1 : 0 < ((s1, d1) : Int × Int).2 := h1
  have j2 : 0 < ((e2, d2) : Int × Int).2 := h2
  have j1 : 0 < ((e1, d1) : Int × Int).2 := h1
  unfold topF
  rw [maxF_le m1 k3 n2, maxF_le k1 k2 n2]
  unfold lowF
  rw [le_minF n1 j3 h1, le_minF n1 j3 h2, le_minF n1 j3 h3, le_minF j1 j2 h1, le_minF j1 j2 h2, le_minF j1 j2 h3]
  unfold Prs
  constructor
  · rintro ⟨⟨⟨⟨a1, a2⟩, a3⟩, ⟨⟨b1, b2⟩, b3⟩⟩, ⟨⟨c1, c2⟩, c3⟩⟩; exact ⟨⟨a1, a2, a3⟩, ⟨b1, b2, b3⟩, ⟨c1, c2, c3⟩⟩
  · rintro ⟨⟨a1, a2, a3⟩, ⟨b1, b2, b3⟩, ⟨c1, c2, c3⟩⟩; exact ⟨⟨⟨⟨a1, a2⟩, a3⟩, ⟨⟨b1, b2⟩, b3⟩⟩, ⟨⟨c1, c2⟩, c3⟩⟩
def PrM (pe pn a b c d h re rn ru : Int) : Prop := Prs (sN pe re a b) (eN pe re a b) (dN re) (sN pn rn c d) (eN pn rn c d) (dN rn) 0 h ru
instance (pe pn a b c d h re rn ru : Int) : Decidable (PrM pe pn a b c d h re rn ru) := by unfold PrM; infer_instance
theorem far {h ru x y : Int} (hu : 1 ≤ ru) (hh : h ≤ 30) (hy : 0 < y) (hx : 0 ≤ x) (hl : ru * x ≤ h * y) : x ≤ 30 * y := by
  have e1 : 1 * x ≤ ru * x := Int.mul_le_mul_of_nonneg_right hu hx
  have e2 : h * y ≤ 30 * y := Int.mul_le_mul_of_nonneg_right hh (Int.le_of_lt hy)
  omega
def shB (pe pn a b c d h re rn ru : Int) : Bool := plB pe pn && (blB a b c d h && (ryB re rn ru && decide (PrM pe pn a b c d h re rn ru)))
theorem shB_f1 {pe pn a b c d h re rn ru : Int} (hp : plB pe pn = false) : shB pe pn a b c d h re rn ru = false := by unfold shB; rw [hp]; rfl
theorem shB_f2 {pe pn a b c d h re rn ru : Int} (hp : blB a b c d h = false) : shB pe pn a b c d h re rn ru = false := by unfold shB; rw [hp]; simp
theorem shB_f3 {pe pn a b c d h re rn ru : Int} (hp : ryB re rn ru = false) : shB pe pn a b c d h re rn ru = false := by unfold shB; rw [hp]; simp
theorem shB_t {pe pn a b c d h re rn ru : Int} (h1 : plB pe pn = true) (h2 : blB a b c d h = true) (h3 : ryB re rn ru = true) : shB pe pn a b c d h re rn ru = decide (PrM pe pn a b c d h re rn ru) := by unfold shB; rw [h1, h2, h3]; rfl
end Go.Proofs.YtbklgpghonigjaaGreat
namespace Go.Proofs.YtbklgpghonigjaaGreat
open Go Go.ChangeShapes Go.WideShapes Go.ChangeAt Go.RowKit
set_option linter.unusedSimpArgs false
set_option linter.unusedVariables false
theorem l1V_any (n a b : Int) (w : World) :
    Calls Tryz.prog 65 #[.int .i64 n, .int .i64 a, .int .i64 b] w fun E w' => E = .returned (.bool (inV n a b)) ∧ w = w' := by
  go_enter Tryz.func65, Tryz.ntmps65
  go_wp2
  all_goals go_ret
  all_goals exact ⟨ret_bool (by rw [Bool.eq_iff_iff]; simp [inV]; omega), rfl⟩
theorem iInV_any (n a b : Int) (w : World) :
    Calls Tryz.prog 99 #[.int .i64 n, .int .i64 a, .int .i64 b] w fun E w' => E = .returned (.bool (inV n a b)) ∧ w = w' := by
  go_enter Tryz.func99, Tryz.ntmps99
  go_wp2
  all_goals go_ret
  all_goals exact ⟨ret_bool (by rw [Bool.eq_iff_iff]; simp [inV]; omega), rfl⟩
theorem pnV_any (n : Int) (w : World) :
    Calls Tryz.prog 109 #[.int .i64 n] w fun E w' => E = .returned (.bool (inV n (-50) 50)) ∧ w = w' := by
  go_enter Tryz.func109, Tryz.ntmps109
  go_wp2_with (go_at_call 99; refine (iInV_any _ _ _ _).mono ?_; rintro e' w' ⟨rfl, rfl⟩)
  go_ret
  exact ⟨rfl, rfl⟩
set_option maxHeartbeats 1000000 in
theorem iPV_any (e n : Int) (w : World) :
    Calls Tryz.prog 56 #[.agg #[.int .i64 e, .int .i64 n]] w fun E w' => E = .returned (.bool (plB e n)) ∧ Below w.heap.size w w' := by
  go_enter Tryz.func56, Tryz.ntmps56
  go_wp2_with (first | (go_at_call 109; refine (pnV_any _ _).mono ?_; rintro e' w' ⟨rfl, rfl⟩) | (go_at_call 99; refine (iInV_any _ _ _ _).mono ?_; rintro e' w' ⟨rfl, rfl⟩))
  all_goals go_ret
  all_goals exact ⟨ret_bool (by simp_all [plB, inV]; try omega), bel1 _ _⟩
set_option maxHeartbeats 1000000 in
theorem sPV_any (e n : Int) (w : World) :
    Calls Tryz.prog 67 #[.agg #[.int .i64 e, .int .i64 n]] w fun E w' => E = .returned (.bool (plB e n)) ∧ Below w.heap.size w w' := by
  go_enter Tryz.func67, Tryz.ntmps67
  go_wp2_with (go_at_call 65; refine (l1V_any _ _ _ _).mono ?_; rintro e' w' ⟨rfl, rfl⟩)
  all_goals go_ret
  all_goals exact ⟨ret_bool (by simp_all [plB, inV]; try omega), bel1 _ _⟩
set_option maxHeartbeats 1000000 in
theorem iRV_any (e n u : Int) (w : World) :
    Calls Tryz.prog 58 #[.agg #[.int .i64 e, .int .i64 n, .int .i64 u]] w fun E w' => E = .returned (.bool (ryB e n u)) ∧ Below w.heap.size w w' := by
  go_enter Tryz.func58, Tryz.ntmps58
  go_wp2_with (first | (go_at_call 109; refine (pnV_any _ _).mono ?_; rintro e' w' ⟨rfl, rfl⟩) | (go_at_call 99; refine (iInV_any _ _ _ _).mono ?_; rintro e' w' ⟨rfl, rfl⟩))
  all_goals go_ret
  all_goals exact ⟨ret_bool (by simp_all [ryB, inV]; try omega), bel1 _ _⟩
set_option maxHeartbeats 1000000 in
theorem sRV_any (e n u : Int) (w : World) :
    Calls Tryz.prog 96 #[.agg #[.int .i64 e, .int .i64 n, .int .i64 u]] w fun E w' => E = .returned (.bool (ryB e n u)) ∧ Below w.heap.size w w' := by
  go_enter Tryz.func96, Tryz.ntmps96
  go_wp2_with (go_at_call 65; refine (l1V_any _ _ _ _).mono ?_; rintro e' w' ⟨rfl, rfl⟩)
  all_goals go_ret
  all_goals exact ⟨ret_bool (by simp_all [ryB, inV]; try omega), bel1 _ _⟩
set_option maxHeartbeats 1000000 in
theorem iBV_any (a b c d h : Int) (w : World) :
    Calls Tryz.prog 111 #[.agg #[.int .i64 a, .int .i64 b, .int .i64 c, .int .i64 d, .int .i64 h]] w fun E w' => E = .returned (.bool (blB a b c d h)) ∧ Below w.heap.size w w' := by
  go_enter Tryz.func111, Tryz.ntmps111
  go_wp2_with (first | (go_at_call 109; refine (pnV_any _ _).mono ?_; rintro e' w' ⟨rfl, rfl⟩) | (go_at_call 99; refine (iInV_any _ _ _ _).mono ?_; rintro e' w' ⟨rfl, rfl⟩))
  all_goals go_ret
  all_goals exact ⟨ret_bool (by simp_all [blB, inV]; try omega), bel1 _ _⟩
theorem l1V_is (n a b : Int) (r : Bool) (w : World) (h : inV n a b = r) : Calls Tryz.prog 65 #[.int .i64 n, .int .i64 a, .int .i64 b] w fun E w' => E = .returned (.bool r) ∧ w = w' := by subst h; exact l1V_any n a b w
set_option maxHeartbeats 4000000 in
theorem sBV_any (a b c d h : Int) (w : World) :
    Calls Tryz.prog 117 #[.agg #[.int .i64 a, .int .i64 b, .int .i64 c, .int .i64 d, .int .i64 h]] w fun E w' => E = .returned (.bool (blB a b c d h)) ∧ Below w.heap.size w w' := by
  by_cases hb : -50 ≤ b ∧ b ≤ 50
  · obtain ⟨hb0, hb1⟩ := hb
    by_cases hd : -50 ≤ d ∧ d ≤ 50
    · obtain ⟨hd0, hd1⟩ := hd
      go_enter Tryz.func117, Tryz.ntmps117
      go_wp2_with (go_at_call 65; refine (l1V_any _ _ _ _).mono ?_; rintro e' w' ⟨rfl, rfl⟩)
      all_goals go_ret
      all_goals exact ⟨ret_bool (by first | (simp_all [blB, inV]; done) | (rw [Bool.eq_iff_iff]; simp_all [blB, inV]; omega)), bel1 _ _⟩
    · have hf : inV d (-50) 50 = false := by unfold inV; exact decide_eq_false hd
      have hg : blB a b c d h = false := by unfold blB; exact decide_eq_false (by omega)
      clear hd
      rw [hg]
      have HF := Lib.hid hf
      clear hf hg
      go_enter Tryz.func117, Tryz.ntmps117
      go_wp2_with (go_at_call 65; first | ((with_reducible refine (l1V_is d (-50) 50 _ _ HF.out).mono ?_); rintro e' w' ⟨rfl, rfl⟩) | (refine (l1V_any _ _ _ _).mono ?_; rintro e' w' ⟨rfl, rfl⟩))
      all_goals go_ret
      all_goals exact ⟨by first | rfl | exact ret_bool (by simp_all), bel1 _ _⟩
  · have hf : inV b (-50) 50 = false := by unfold inV; exact decide_eq_false hb
    have hg : blB a b c d h = false := by unfold blB; exact decide_eq_false (by omega)
    clear hb
    rw [hg]
    have HF := Lib.hid hf
    clear hf hg
    go_enter Tryz.func117, Tryz.ntmps117
    go_wp2_with (go_at_call 65; first | ((with_reducible refine (l1V_is b (-50) 50 _ _ HF.out).mono ?_); rintro e' w' ⟨rfl, rfl⟩) | (refine (l1V_any _ _ _ _).mono ?_; rintro e' w' ⟨rfl, rfl⟩))
    all_goals go_ret
    all_goals exact ⟨by first | rfl | exact ret_bool (by simp_all), bel1 _ _⟩
theorem iPV_is {e n : Int} {r : Bool} (w : World) (h_ : plB e n = r) : Calls Tryz.prog 56 #[.agg #[.int .i64 e, .int .i64 n]] w fun E w' => E = .returned (.bool r) ∧ Below w.heap.size w w' := by subst h_; exact iPV_any e n w
theorem sPV_is {e n : Int} {r : Bool} (w : World) (h_ : plB e n = r) : Calls Tryz.prog 67 #[.agg #[.int .i64 e, .int .i64 n]] w fun E w' => E = .returned (.bool r) ∧ Below w.heap.size w w' := by subst h_; exact sPV_any e n w
theorem iRV_is {e n u : Int} {r : Bool} (w : World) (h_ : ryB e n u = r) : Calls Tryz.prog 58 #[.agg #[.int .i64 e, .int .i64 n, .int .i64 u]] w fun E w' => E = .returned (.bool r) ∧ Below w.heap.size w w' := by subst h_; exact iRV_any e n u w
theorem sRV_is {e n u : Int} {r : Bool} (w : World) (h_ : ryB e n u = r) : Calls Tryz.prog 96 #[.agg #[.int .i64 e, .int .i64 n, .int .i64 u]] w fun E w' => E = .returned (.bool r) ∧ Below w.heap.size w w' := by subst h_; exact sRV_any e n u w
theorem iBV_is {a b c d h : Int} {r : Bool} (w : World) (h_ : blB a b c d h = r) : Calls Tryz.prog 111 #[.agg #[.int .i64 a, .int .i64 b, .int .i64 c, .int .i64 d, .int .i64 h]] w fun E w' => E = .returned (.bool r) ∧ Below w.heap.size w w' := by subst h_; exact iBV_any a b c d h w
theorem sBV_is {a b c d h : Int} {r : Bool} (w : World) (h_ : blB a b c d h = r) : Calls Tryz.prog 117 #[.agg #[.int .i64 a, .int .i64 b, .int .i64 c, .int .i64 d, .int .i64 h]] w fun E w' => E = .returned (.bool r) ∧ Below w.heap.size w w' := by subst h_; exact sBV_any a b c d h w
end Go.Proofs.YtbklgpghonigjaaGreat
namespace Go.Proofs.YtbklgpghonigjaaGreat
open Go Go.ChangeShapes Go.WideShapes Go.ChangeAt Go.RowKit
set_option linter.unusedSimpArgs false
set_option linter.unusedVariables false
theorem all_no {α : Type} {p : α → Bool} {xs : List α} {k : Nat} (hk : k < xs.length) (h : p xs[k] = false) : xs.all p = false := by
  rw [List.all_eq_false]; exact ⟨xs[k], List.getElem_mem hk, by simp [h]⟩
theorem all_yes {α : Type} {p : α → Bool} {xs : List α} {k n : Nat} (hn : xs.length = n) (hk : n ≤ k) (h : (xs.take k).all p = true) : xs.all p = true := by
  rwa [List.take_of_length_le (by omega)] at h
theorem all_step {α : Type} {p : α → Bool} {xs : List α} {k : Nat} (hk : k < xs.length) (ha : (xs.take k).all p = true) (h : p xs[k] = true) : (xs.take (k + 1)).all p = true := by
  rw [List.take_succ_eq_append_getElem hk, List.all_append, ha]; simp [h]
def blV (v : VBlock) : Bool := blB v.1 v.2.1 v.2.2.1 v.2.2.2.1 v.2.2.2.2
def bsB (xs : List VBlock) : Bool := decide (xs.length ≤ 5) && xs.all blV
set_option maxHeartbeats 4000000 in
theorem iAllBlock (A : Option Addr) (cap : Nat) (xs : List VBlock) {r : Bool} {n : Nat} (w : World) (hn : xs.length = n) (h : SRow encBlock w A xs) (hl : n ≤ 2000000) (hr : xs.all blV = r) :
    Calls Tryz.prog 110 #[.slice A n cap, .func (.func 111) #[] #[]] w fun E w' => E = .returned (.bool r) ∧ Below w.heap.size w w' := by
  subst hr
  have HN := Lib.hid hn
  clear hn
  go_enter Tryz.func110, Tryz.ntmps110
  go_wp2_with fail
  go_loopw [9] (fun v wr => ∃ k : Nat, v = .int .i64 k ∧ k ≤ n ∧ Hid ((xs.take k).all blV = true) ∧ Below w.heap.size w wr) (fun v _ => (n - intOf v).toNat)
  case atStart => exact ⟨0, rfl, by omega, (by show _ = _; rfl), Below.refl _ _⟩
  case round =>
    obtain ⟨k, rfl, k1, HA, hB⟩ := hrel
    by_cases hlt : k < n
    · have hk : k < xs.length := by rw [HN.out]; exact hlt
      have hki : (k : Int) < (n : Int) := by omega
      obtain ⟨b, off, rfl, hb, c0, c1, c2, c3, c4⟩ := rowBlock (h.next hB) hk
      obtain ⟨v, hv⟩ : ∃ v, blV xs[k] = v := ⟨_, rfl⟩
      have HV := Lib.hid hv
      clear hv
      go_wp2_with fail
      refine (iBV_is _ HV.out).mono ?_; rintro e w1 ⟨rfl, hw1⟩
      have hB1 := bel_next (hB.alloc hB.size _) hw1
      cases v
      · go_wp2_with fail
        go_ret
        exact ⟨ret_bool (all_no hk HV.out).symm, hB1⟩
      · go_wp2_with fail
        go_roundw
        case rel => exact ⟨k + 1, by go_num, by omega, Lib.hid (all_step hk HA.out HV.out), hB1⟩
        case measure => simp [intOf]; omega
    · have hki : ¬ (k : Int) < (n : Int) := by omega
      go_wp2_with fail
      go_ret
      exact ⟨ret_bool (all_yes HN.out (by omega) HA.out).symm, hB⟩
set_option maxHeartbeats 4000000 in
theorem iBs_any (A : Option Addr) (cap : Nat) (xs : List VBlock) {n : Nat} (w : World) (hn : xs.length = n) (h : SRow encBlock w A xs) (hl : n ≤ 2000000) :
    Calls Tryz.prog 57 #[.slice A n cap] w fun E w' => E = .returned (.bool (bsB xs)) ∧ Below w.heap.size w w' := by
  by_cases h5 : n ≤ 5
  · have h5i : (n : Int) ≤ 5 := by omega
    obtain ⟨v, hv⟩ : ∃ v, xs.all blV = v := ⟨_, rfl⟩
    have e : bsB xs = v := by unfold bsB; rw [hn, hv]; simp [h5]
    have HE := Lib.hid e
    have HV := Lib.hid hv
    have HN := Lib.hid hn
    clear e hv hn
    go_enter Tryz.func57, Tryz.ntmps57
    go_wp2_with fail
    refine (iAllBlock A cap xs _ HN.out h hl HV.out).mono ?_; rintro e w1 ⟨rfl, hw1⟩
    go_wp2
    go_ret
    exact ⟨ret_bool HE.out.symm, hw1⟩
  · have h5i : ¬ (n : Int) ≤ 5 := by omega
    have e : bsB xs = false := by unfold bsB; rw [hn]; simp [h5]
    rw [e]
    clear e hn h
    go_enter Tryz.func57, Tryz.ntmps57
    go_wp2
    go_ret
    exact ⟨ret_bool rfl, Below.refl _ _⟩
set_option maxHeartbeats 4000000 in
theorem sBs_any (A : Option Addr) (cap : Nat) (xs : List VBlock) {n : Nat} (w : World) (hn : xs.length = n) (h : SRow encBlock w A xs) (hl : n ≤ 2000000) :
    Calls Tryz.prog 66 #[.slice A n cap] w fun E w' => E = .returned (.bool (bsB xs)) ∧ Below w.heap.size w w' := by
  have HN := Lib.hid hn
  clear hn
  go_enter Tryz.func66, Tryz.ntmps66
  go_wp2_with fail
  go_loopw [3] (fun v wr => ∃ k : Nat, v = .int .i64 k ∧ k ≤ n ∧ Hid ((xs.take k).all blV = true) ∧ Below w.heap.size w wr) (fun v _ => (n - intOf v).toNat)
  case atStart => exact ⟨0, rfl, by omega, (by show _ = _; rfl), Below.refl _ _⟩
  case round =>
    obtain ⟨k, rfl, k1, HA, hB⟩ := hrel
    by_cases hlt : k < n
    · have hk : k < xs.length := by rw [HN.out]; exact hlt
      have hki : (k : Int) < (n : Int) := by omega
      obtain ⟨b, off, rfl, hb, c0, c1, c2, c3, c4⟩ := rowBlock (h.next hB) hk
      obtain ⟨v, hv⟩ : ∃ v, blV xs[k] = v := ⟨_, rfl⟩
      have HV := Lib.hid hv
      clear hv
      go_wp2_with fail
      refine (sBV_is _ HV.out).mono ?_; rintro e w1 ⟨rfl, hw1⟩
      have hB1 := bel_next hB hw1
      cases v
      · go_wp2_with fail
        go_ret
        exact ⟨ret_bool (by unfold bsB; rw [all_no hk HV.out]; simp), hB1⟩
      · go_wp2_with fail
        go_roundw
        case rel => exact ⟨k + 1, by go_num, by omega, Lib.hid (all_step hk HA.out HV.out), hB1⟩
        case measure => simp [intOf]; omega
    · have hki : ¬ (k : Int) < (n : Int) := by omega
      have HX : Hid (xs.all blV = true) := all_yes HN.out (by omega) HA.out
      clear HA
      go_wp2_with fail
      go_ret
      exact ⟨ret_bool (by unfold bsB; rw [HX.out, HN.out]; rw [Bool.eq_iff_iff]; simp; try omega), hB⟩
theorem iBs_is (A : Option Addr) (cap : Nat) (xs : List VBlock) {r : Bool} {n : Nat} (w : World) (hn : xs.length = n) (h : SRow encBlock w A xs) (hl : n ≤ 2000000) (hr : bsB xs = r) : Calls Tryz.prog 57 #[.slice A n cap] w fun E w' => E = .returned (.bool r) ∧ Below w.heap.size w w' := by subst hr; exact iBs_any A cap xs w hn h hl
theorem sBs_is (A : Option Addr) (cap : Nat) (xs : List VBlock) {r : Bool} {n : Nat} (w : World) (hn : xs.length = n) (h : SRow encBlock w A xs) (hl : n ≤ 2000000) (hr : bsB xs = r) : Calls Tryz.prog 66 #[.slice A n cap] w fun E w' => E = .returned (.bool r) ∧ Below w.heap.size w w' := by subst hr; exact sBs_any A cap xs w hn h hl
end Go.Proofs.YtbklgpghonigjaaGreat
namespace Go.Proofs.YtbklgpghonigjaaGreat
open Go Go.ChangeShapes Go.WideShapes Go.ChangeAt Go.RowKit
set_option linter.unusedSimpArgs false
set_option linter.unusedVariables false
end Go.Proofs.YtbklgpghonigjaaGreat
namespace Go.Proofs.YtbklgpghonigjaaGreat
open Go Go.ChangeShapes Go.WideShapes Go.ChangeAt Go.RowKit
set_option linter.unusedSimpArgs false
set_option linter.unusedVariables false
end Go.Proofs.YtbklgpghonigjaaGreat
namespace Go.Proofs.YtbklgpghonigjaaGreat
open Go Go.ChangeShapes Go.WideShapes Go.ChangeAt Go.RowKit
set_option linter.unusedSimpArgs false
set_option linter.unusedVariables false
theorem blk6 {w : World} {b : Nat} {x0 x1 x2 x3 x4 x5 : Value} {t : TypeId} (h : w.heap[b]? = some (.cells #[x0, x1, x2, x3, x4, x5] t (0, 0))) :
    w.cell? ⟨b, 0, none⟩ = some x0 ∧ w.cell? ⟨b, 1, none⟩ = some x1 ∧ w.cell? ⟨b, 2, none⟩ = some x2 ∧ w.cell? ⟨b, 3, none⟩ = some x3 ∧ w.cell? ⟨b, 4, none⟩ = some x4 ∧ w.cell? ⟨b, 5, none⟩ = some x5 ∧ w.frozen? ⟨b, 0, none⟩ = false ∧ w.frozen? ⟨b, 1, none⟩ = false ∧ w.frozen? ⟨b, 2, none⟩ = false ∧ w.frozen? ⟨b, 3, none⟩ = false ∧ w.frozen? ⟨b, 4, none⟩ = false ∧ w.frozen? ⟨b, 5, none⟩ = false ∧ b < w.heap.size :=
  ⟨by simp [World.cell?, h], by simp [World.cell?, h], by simp [World.cell?, h], by simp [World.cell?, h], by simp [World.cell?, h], by simp [World.cell?, h], by simp [World.frozen?, h], by simp [World.frozen?, h], by simp [World.frozen?, h], by simp [World.frozen?, h], by simp [World.frozen?, h], by simp [World.frozen?, h], blk_lt h⟩
end Go.Proofs.YtbklgpghonigjaaGreat
namespace Go.Proofs.YtbklgpghonigjaaGreat
open Go Go.ChangeShapes Go.WideShapes Go.ChangeAt Go.RowKit
set_option linter.unusedSimpArgs false
set_option linter.unusedVariables false
theorem mulC {a b p q : Int} (h0 : -p ≤ a) (h1 : a ≤ p) (h2 : -q ≤ b) (h3 : b ≤ q) : -(p * q) ≤ a * b ∧ a * b ≤ p * q := by
  have e1 := Int.mul_nonneg (show 0 ≤ p - a by omega) (show 0 ≤ q + b by omega)
  have e2 := Int.mul_nonneg (show 0 ≤ p + a by omega) (show 0 ≤ q - b by omega)
  have e3 := Int.mul_nonneg (show 0 ≤ p - a by omega) (show 0 ≤ q - b by omega)
  have e4 := Int.mul_nonneg (show 0 ≤ p + a by omega) (show 0 ≤ q + b by omega)
  simp only [Int.sub_mul, Int.add_mul, Int.mul_add, Int.mul_sub] at e1 e2 e3 e4
  omega
/-- Numbers of fractions are small. -/
def FrOk (x : Int × Int) : Prop := (-100 ≤ x.1 ∧ x.1 ≤ 100) ∧ (1 ≤ x.2 ∧ x.2 ≤ 20)
theorem FrOk.max {x y : Int × Int} (hx : FrOk x) (hy : FrOk y) : FrOk (maxF x y) := by unfold maxF; split <;> assumption
theorem FrOk.min {x y : Int × Int} (hx : FrOk x) (hy : FrOk y) : FrOk (minF x y) := by unfold minF; split <;> assumption
set_option maxHeartbeats 4000000 in
theorem befR_any (a b c d : Int) (w : World) (hx : FrOk (a, b)) (hy : FrOk (c, d)) :
    Calls Tryz.prog 115 #[.int .i64 1, .agg #[.int .i64 a, .int .i64 b], .agg #[.int .i64 c, .int .i64 d]] w fun E w' => E = .returned (.bool (decide (a * d < c * b))) ∧ Below w.heap.size w w' := by
  obtain ⟨⟨a0, a1⟩, b0, b1⟩ := hx
  obtain ⟨⟨c0, c1⟩, d0, d1⟩ := hy
  simp only at a0 a1 b0 b1 c0 c1 d0 d1
  have m1 := mulC (p := 100) (q := 20) (a := a) (b := d) (by omega) (by omega) (by omega) (by omega)
  have m2 := mulC (p := 100) (q := 20) (a := c) (b := b) (by omega) (by omega) (by omega) (by omega)
  simp only [Int.reduceMul, Int.reduceNeg] at m1 m2
  obtain ⟨m10, m11⟩ := m1
  obtain ⟨m20, m21⟩ := m2
  go_enter Tryz.func115, Tryz.ntmps115
  go_wp2
  all_goals go_ret
  all_goals exact ⟨ret_bool (by first | rfl | (rw [Bool.eq_iff_iff]; simp_all; try omega)), (bel1 _ _).alloc (by simp) _⟩
set_option maxHeartbeats 4000000 in
theorem befF_any (a b c d : Int) (w : World) (hx : FrOk (a, b)) (hy : FrOk (c, d)) :
    Calls Tryz.prog 115 #[.int .i64 (-1), .agg #[.int .i64 a, .int .i64 b], .agg #[.int .i64 c, .int .i64 d]] w fun E w' => E = .returned (.bool (decide (c * b < a * d))) ∧ Below w.heap.size w w' := by
  obtain ⟨⟨a0, a1⟩, b0, b1⟩ := hx
  obtain ⟨⟨c0, c1⟩, d0, d1⟩ := hy
  simp only at a0 a1 b0 b1 c0 c1 d0 d1
  have m1 := mulC (p := 100) (q := 20) (a := a) (b := d) (by omega) (by omega) (by omega) (by omega)
  have m2 := mulC (p := 100) (q := 20) (a := c) (b := b) (by omega) (by omega) (by omega) (by omega)
  simp only [Int.reduceMul, Int.reduceNeg] at m1 m2
  obtain ⟨m10, m11⟩ := m1
  obtain ⟨m20, m21⟩ := m2
  have n1 : -1 * a * d = -(a * d) := by grind
  have n2 : -1 * c * b = -(c * b) := by grind
  have n3 : (-a) * d = -(a * d) := by grind
  have n4 : (-c) * b = -(c * b) := by grind
  go_enter Tryz.func115, Tryz.ntmps115
  go_wp2
  all_goals go_ret
  all_goals exact ⟨ret_bool (by first | rfl | (rw [Bool.eq_iff_iff]; simp_all; try omega)), (bel1 _ _).alloc (by simp) _⟩
set_option maxHeartbeats 4000000 in
theorem lastR_any (a b c d : Int) (w : World) (hx : FrOk (a, b)) (hy : FrOk (c, d)) :
    Calls Tryz.prog 139 #[.agg #[.int .i64 a, .int .i64 b], .agg #[.int .i64 c, .int .i64 d], .func (.func 115) #[.int .i64 1] #[]] w fun E w' => E = .returned (.agg #[.int .i64 (maxF (a, b) (c, d)).1, .int .i64 (maxF (a, b) (c, d)).2]) ∧ Below w.heap.size w w' := by
  by_cases h : a * d < c * b
  · have e : maxF (a, b) (c, d) = (c, d) := by unfold maxF; exact if_pos h
    rw [e]
    have dd : decide (a * d < c * b) = true := by simpa using h
    clear e h
    go_enter Tryz.func139, Tryz.ntmps139
    go_wp2_with fail
    refine (befR_any a b c d _ hx hy).mono ?_; rintro E w1 ⟨rfl, hw1⟩
    obtain ⟨hP1, hQ1, hR1, hB1⟩ := ownb3 hw1
    obtain ⟨p0, p1, _, _, zp⟩ := blk2 hP1
    obtain ⟨q0, q1, _, _, zq⟩ := blk2 hQ1
    obtain ⟨r0, r1, _, _, zr⟩ := blk2 hR1
    have hR2 := blk2_set (a := .int .i64 c) (b := .int .i64 d) hR1
    obtain ⟨s0, s1, _, _, _⟩ := blk2 hR2
    go_wp2
    exact bodyPost_ret (v := .agg #[.int .i64 c, .int .i64 d]) (by simp [results, Tryz.results139, go_sem, s0, s1]) rfl ⟨rfl, store2_bel hB1 (by omega) _ _⟩
  · have e : maxF (a, b) (c, d) = (a, b) := by unfold maxF; exact if_neg h
    rw [e]
    have dd : decide (a * d < c * b) = false := by simpa using h
    clear e h
    go_enter Tryz.func139, Tryz.ntmps139
    go_wp2_with fail
    refine (befR_any a b c d _ hx hy).mono ?_; rintro E w1 ⟨rfl, hw1⟩
    obtain ⟨hP1, hQ1, hR1, hB1⟩ := ownb3 hw1
    obtain ⟨p0, p1, _, _, zp⟩ := blk2 hP1
    obtain ⟨q0, q1, _, _, zq⟩ := blk2 hQ1
    obtain ⟨r0, r1, _, _, zr⟩ := blk2 hR1
    have hR2 := blk2_set (a := .int .i64 a) (b := .int .i64 b) hR1
    obtain ⟨s0, s1, _, _, _⟩ := blk2 hR2
    go_wp2
    exact bodyPost_ret (v := .agg #[.int .i64 a, .int .i64 b]) (by simp [results, Tryz.results139, go_sem, s0, s1]) rfl ⟨rfl, store2_bel hB1 (by omega) _ _⟩
set_option maxHeartbeats 4000000 in
theorem lastF_any (a b c d : Int) (w : World) (hx : FrOk (a, b)) (hy : FrOk (c, d)) :
    Calls Tryz.prog 139 #[.agg #[.int .i64 a, .int .i64 b], .agg #[.int .i64 c, .int .i64 d], .func (.func 115) #[.int .i64 (-1)] #[]] w fun E w' => E = .returned (.agg #[.int .i64 (minF (a, b) (c, d)).1, .int .i64 (minF (a, b) (c, d)).2]) ∧ Below w.heap.size w w' := by
  by_cases h : c * b < a * d
  · have e : minF (a, b) (c, d) = (c, d) := by unfold minF; exact if_pos h
    rw [e]
    have dd : decide (c * b < a * d) = true := by simpa using h
    clear e h
    go_enter Tryz.func139, Tryz.ntmps139
    go_wp2_with fail
    refine (befF_any a b c d _ hx hy).mono ?_; rintro E w1 ⟨rfl, hw1⟩
    obtain ⟨hP1, hQ1, hR1, hB1⟩ := ownb3 hw1
    obtain ⟨p0, p1, _, _, zp⟩ := blk2 hP1
    obtain ⟨q0, q1, _, _, zq⟩ := blk2 hQ1
    obtain ⟨r0, r1, _, _, zr⟩ := blk2 hR1
    have hR2 := blk2_set (a := .int .i64 c) (b := .int .i64 d) hR1
    obtain ⟨s0, s1, _, _, _⟩ := blk2 hR2
    go_wp2
    exact bodyPost_ret (v := .agg #[.int .i64 c, .int .i64 d]) (by simp [results, Tryz.results139, go_sem, s0, s1]) rfl ⟨rfl, store2_bel hB1 (by omega) _ _⟩
  · have e : minF (a, b) (c, d) = (a, b) := by unfold minF; exact if_neg h
    rw [e]
    have dd : decide (c * b < a * d) = false := by simpa using h
    clear e h
    go_enter Tryz.func139, Tryz.ntmps139
    go_wp2_with fail
    refine (befF_any a b c d _ hx hy).mono ?_; rintro E w1 ⟨rfl, hw1⟩
    obtain ⟨hP1, hQ1, hR1, hB1⟩ := ownb3 hw1
    obtain ⟨p0, p1, _, _, zp⟩ := blk2 hP1
    obtain ⟨q0, q1, _, _, zq⟩ := blk2 hQ1
    obtain ⟨r0, r1, _, _, zr⟩ := blk2 hR1
    have hR2 := blk2_set (a := .int .i64 a) (b := .int .i64 b) hR1
    obtain ⟨s0, s1, _, _, _⟩ := blk2 hR2
    go_wp2
    exact bodyPost_ret (v := .agg #[.int .i64 a, .int .i64 b]) (by simp [results, Tryz.results139, go_sem, s0, s1]) rfl ⟨rfl, store2_bel hB1 (by omega) _ _⟩
theorem iInV_is2 (n a b : Int) (r : Bool) (w : World) (h : inV n a b = r) : Calls Tryz.prog 99 #[.int .i64 n, .int .i64 a, .int .i64 b] w fun E w' => E = .returned (.bool r) ∧ w = w' := by subst h; exact iInV_any n a b w
set_option maxHeartbeats 4000000 in
theorem within_any (p r lo hi : Int) (w : World) (p0 : -100 ≤ p) (p1 : p ≤ 100) (r0 : -100 ≤ r) (r1 : r ≤ 100) (l0 : -100 ≤ lo) (l1 : lo ≤ 100) (h0 : -100 ≤ hi) (h1 : hi ≤ 100) :
    Calls Tryz.prog 114 #[.int .i64 p, .int .i64 r, .int .i64 lo, .int .i64 hi] w fun E w' => E = .returned (.agg #[.int .i64 (sN p r lo hi), .int .i64 (dN r), .int .i64 (eN p r lo hi), .int .i64 (dN r)]) ∧ Below w.heap.size w w' := by
  by_cases g1 : 0 < r
  · have e1 : sN p r lo hi = lo - p := by unfold sN; exact if_pos g1
    have e2 : eN p r lo hi = hi - p := by unfold eN; exact if_pos g1
    have e3 : dN r = r := by unfold dN; exact if_pos g1
    rw [e1, e2, e3]; clear e1 e2 e3
    go_enter Tryz.func114, Tryz.ntmps114
    go_wp2
    exact bodyPost_ret (v := .agg #[.int .i64 (lo - p), .int .i64 r, .int .i64 (hi - p), .int .i64 r]) (by simp [results, Tryz.results114, go_sem]) rfl ⟨rfl, by repeat (first | exact Below.refl _ _ | refine Below.setCell ?_ (by simp <;> omega) _ | refine Below.alloc ?_ (by simp <;> omega) _)⟩
  · by_cases h2 : r < 0
    · have e1 : sN p r lo hi = p - hi := by unfold sN; rw [if_neg g1, if_pos h2]
      have e2 : eN p r lo hi = p - lo := by unfold eN; rw [if_neg g1, if_pos h2]
      have e3 : dN r = -r := by unfold dN; rw [if_neg g1, if_pos h2]
      rw [e1, e2, e3]; clear e1 e2 e3
      go_enter Tryz.func114, Tryz.ntmps114
      go_wp2
      exact bodyPost_ret (v := .agg #[.int .i64 (p - hi), .int .i64 (-r), .int .i64 (p - lo), .int .i64 (-r)]) (by simp [results, Tryz.results114, go_sem]) rfl ⟨rfl, by repeat (first | exact Below.refl _ _ | refine Below.setCell ?_ (by simp <;> omega) _ | refine Below.alloc ?_ (by simp <;> omega) _)⟩
    · obtain rfl : r = 0 := by omega
      by_cases h3 : lo ≤ p ∧ p ≤ hi
      · have e1 : sN p 0 lo hi = 0 := by unfold sN; rw [if_neg g1, if_neg h2, if_pos h3]
        have e2 : eN p 0 lo hi = 30 := by unfold eN; rw [if_neg g1, if_neg h2, if_pos h3]
        have e3 : dN 0 = 1 := rfl
        have e4 : inV p lo hi = true := by unfold inV; exact decide_eq_true h3
        rw [e1, e2, e3]; have H4 := Lib.hid e4; clear e1 e2 e3 e4
        go_enter Tryz.func114, Tryz.ntmps114
        go_wp2_with (go_at_call 99; refine (iInV_is2 _ _ _ _ _ H4.out).mono ?_; rintro E w' ⟨rfl, rfl⟩)
        exact bodyPost_ret (v := .agg #[.int .i64 0, .int .i64 1, .int .i64 30, .int .i64 1]) (by simp [results, Tryz.results114, go_sem]) rfl ⟨rfl, by repeat (first | exact Below.refl _ _ | refine Below.setCell ?_ (by simp <;> omega) _ | refine Below.alloc ?_ (by simp <;> omega) _)⟩
      · have e1 : sN p 0 lo hi = 1 := by unfold sN; rw [if_neg g1, if_neg h2, if_neg h3]
        have e2 : eN p 0 lo hi = 0 := by unfold eN; rw [if_neg g1, if_neg h2, if_neg h3]
        have e3 : dN 0 = 1 := rfl
        have e4 : inV p lo hi = false := by unfold inV; exact decide_eq_false h3
        rw [e1, e2, e3]; have H4 := Lib.hid e4; clear e1 e2 e3 e4
        go_enter Tryz.func114, Tryz.ntmps114
        go_wp2_with (go_at_call 99; refine (iInV_is2 _ _ _ _ _ H4.out).mono ?_; rintro E w' ⟨rfl, rfl⟩)
        exact bodyPost_ret (v := .agg #[.int .i64 1, .int .i64 1, .int .i64 0, .int .i64 1]) (by simp [results, Tryz.results114, go_sem]) rfl ⟨rfl, by repeat (first | exact Below.refl _ _ | refine Below.setCell ?_ (by simp <;> omega) _ | refine Below.alloc ?_ (by simp <;> omega) _)⟩
end Go.Proofs.YtbklgpghonigjaaGreat
namespace Go.Proofs.YtbklgpghonigjaaGreat
open Go Go.ChangeShapes Go.WideShapes Go.ChangeAt Go.RowKit
set_option linter.unusedSimpArgs false
set_option linter.unusedVariables false
theorem blk8 {w : World} {b : Nat} {y0 y1 y2 y3 y4 y5 y6 y7 : Value} {t : TypeId} (h : w.heap[b]? = some (.cells #[y0, y1, y2, y3, y4, y5, y6, y7] t (0, 0))) :
    w.cell? ⟨b, 0, none⟩ = some y0 ∧ w.cell? ⟨b, 1, none⟩ = some y1 ∧ w.cell? ⟨b, 2, none⟩ = some y2 ∧ w.cell? ⟨b, 3, none⟩ = some y3 ∧ w.cell? ⟨b, 4, none⟩ = some y4 ∧ w.cell? ⟨b, 5, none⟩ = some y5 ∧ w.cell? ⟨b, 6, none⟩ = some y6 ∧ w.cell? ⟨b, 7, none⟩ = some y7 ∧ b < w.heap.size :=
  ⟨by simp [World.cell?, h], by simp [World.cell?, h], by simp [World.cell?, h], by simp [World.cell?, h], by simp [World.cell?, h], by simp [World.cell?, h], by simp [World.cell?, h], by simp [World.cell?, h], blk_lt h⟩
def upMax (x1 x2 x3 : Int × Int) (k : Nat) : Int × Int := if k = 0 then x1 else if k = 1 then maxF x1 x2 else maxF (maxF x1 x2) x3
def upMin (y1 y2 y3 : Int × Int) (k : Nat) : Int × Int := if k = 0 then y1 else if k = 1 then minF y1 y2 else minF (minF y1 y2) y3
set_option maxHeartbeats 4000000 in
theorem common_any (x1 y1 x2 y2 x3 y3 : Int × Int) (g cap : Nat) (w : World) (h1 : FrOk x1) (h2 : FrOk x2) (h3 : FrOk x3) (g1 : FrOk y1) (g2 : FrOk y2) (g3 : FrOk y3) (hg : w.heap[g]? = some (.cells #[.int .i64 x2.1, .int .i64 x2.2, .int .i64 y2.1, .int .i64 y2.2, .int .i64 x3.1, .int .i64 x3.2, .int .i64 y3.1, .int .i64 y3.2] 122 (0, 0))) :
    Calls Tryz.prog 113 #[.agg #[.int .i64 x1.1, .int .i64 x1.2, .int .i64 y1.1, .int .i64 y1.2], .slice (some ⟨g, 0, none⟩) 2 cap] w fun E w' => E = .returned (.agg #[.int .i64 (maxF (maxF x1 x2) x3).1, .int .i64 (maxF (maxF x1 x2) x3).2, .int .i64 (minF (minF y1 y2) y3).1, .int .i64 (minF (minF y1 y2) y3).2]) ∧ Below w.heap.size w w' := by
  go_enter Tryz.func113, Tryz.ntmps113
  go_wp2_with fail
  go_loopw [9] (fun i wr => ∃ k : Nat, k ≤ 2 ∧ i = .int .i64 k ∧ wr.heap[w.heap.size]? = some (.cells #[.int .i64 (upMax x1 x2 x3 k).1, .int .i64 (upMax x1 x2 x3 k).2, .int .i64 (upMin y1 y2 y3 k).1, .int .i64 (upMin y1 y2 y3 k).2] 122 (0, 0)) ∧ wr.heap[w.heap.size + 1]? = some (.cells #[.int .i64 0, .int .i64 0, .int .i64 0, .int .i64 0] 122 (0, 0)) ∧ wr.heap[g]? = some (.cells #[.int .i64 x2.1, .int .i64 x2.2, .int .i64 y2.1, .int .i64 y2.2, .int .i64 x3.1, .int .i64 x3.2, .int .i64 y3.1, .int .i64 y3.2] 122 (0, 0)) ∧ Below w.heap.size w wr) (fun i _ => (2 - intOf i).toNat)
  case atStart =>
    exact ⟨0, by omega, rfl, blk_old (blk_new w _) _, new2 w _ _, blk_old (blk_old hg _) _, bel2 w _ _⟩
  case round =>
    obtain ⟨k, k1, rfl, hP0, hQ, hL, hB⟩ := hrel
    have kk : k = 0 ∨ k = 1 ∨ k = 2 := by omega
    clear k1
    rcases kk with rfl | rfl | rfl
    · have hP := hP0
      have eu : upMax x1 x2 x3 0 = x1 := rfl
      have ev : upMin y1 y2 y3 0 = y1 := rfl
      rw [eu, ev] at hP
      clear eu ev hP0
      obtain ⟨p0, p1, p2, p3, f0, f1, f2, f3, zp⟩ := blk4 hP
      obtain ⟨l0, l1, l2, l3, l4, l5, l6, l7, zl⟩ := blk8 hL
      go_wp2_with fail
      refine (lastR_any _ _ _ _ _ h1 h2).mono ?_; rintro E w1 ⟨rfl, hw1⟩
      have hB1 := bel_next (hB.alloc hB.size _) hw1
      have hP1 := blk_next (blk_old hP _) hw1
      have hL1 := blk_next (blk_old hL _) hw1
      have hN1 := blk_next (blk_new wr _) hw1
      have hQ1 := blk_next (blk_old hQ _) hw1
      have hP2 : ((w1.setCell ⟨w.heap.size, 0, none⟩ (.int .i64 (maxF x1 x2).1)).setCell ⟨w.heap.size, 1, none⟩ (.int .i64 (maxF x1 x2).2)).heap[w.heap.size]? = some (.cells #[.int .i64 (maxF x1 x2).1, .int .i64 (maxF x1 x2).2, .int .i64 y1.1, .int .i64 y1.2] 122 (0, 0)) := by have := blk_at 1 (.int .i64 (maxF x1 x2).2) _ (blk_at 0 (.int .i64 (maxF x1 x2).1) _ hP1); rw [this]; simp
      have zg : g ≠ w.heap.size := by have := blk_lt hg; omega
      have zn : wr.heap.size ≠ w.heap.size := by omega
      have zq : w.heap.size + 1 ≠ w.heap.size := by omega
      have hL2 := blk_store2 hL1 zg (.int .i64 (maxF x1 x2).1) (.int .i64 (maxF x1 x2).2)
      have hN2 := blk_store2 hN1 zn (.int .i64 (maxF x1 x2).1) (.int .i64 (maxF x1 x2).2)
      have hQ2 := blk_store2 hQ1 zq (.int .i64 (maxF x1 x2).1) (.int .i64 (maxF x1 x2).2)
      have hB2 := store2_bel hB1 (Nat.le_refl _) (.int .i64 (maxF x1 x2).1) (.int .i64 (maxF x1 x2).2)
      obtain ⟨p0, p1, p2, p3, f0, f1, f2, f3, zp⟩ := blk4 hP1
      obtain ⟨n0, n1, n2, n3, j0, j1, j2, j3, zn1⟩ := blk4 hN1
      go_wp2_with fail
      refine (lastF_any _ _ _ _ _ g1 g2).mono ?_; rintro E w3 ⟨rfl, hw3⟩
      have hP3 := blk_next hP2 hw3
      have hL3 := blk_next hL2 hw3
      have hQ3 := blk_next hQ2 hw3
      have hB3 := bel_next hB2 hw3
      obtain ⟨p0, p1, p2, p3, f0, f1, f2, f3, zp⟩ := blk4 hP3
      have hP4 : ((w3.setCell ⟨w.heap.size, 2, none⟩ (.int .i64 (minF y1 y2).1)).setCell ⟨w.heap.size, 3, none⟩ (.int .i64 (minF y1 y2).2)).heap[w.heap.size]? = some (.cells #[.int .i64 (maxF x1 x2).1, .int .i64 (maxF x1 x2).2, .int .i64 (minF y1 y2).1, .int .i64 (minF y1 y2).2] 122 (0, 0)) := by have := blk_at 3 (.int .i64 (minF y1 y2).2) _ (blk_at 2 (.int .i64 (minF y1 y2).1) _ hP3); rw [this]; simp
      have hL4 := blk_far (i := 3) (blk_far (i := 2) hL3 zg (.int .i64 (minF y1 y2).1)) zg (.int .i64 (minF y1 y2).2)
      have hQ4 := blk_far (i := 3) (blk_far (i := 2) hQ3 zq (.int .i64 (minF y1 y2).1)) zq (.int .i64 (minF y1 y2).2)
      have hB4 := (hB3.setCell (p := ⟨w.heap.size, 2, none⟩) (Nat.le_refl _) (.int .i64 (minF y1 y2).1)).setCell (p := ⟨w.heap.size, 3, none⟩) (Nat.le_refl _) (.int .i64 (minF y1 y2).2)
      clear hP hP1 hP2 hP3 hL hL1 hL2 hL3 hQ hQ1 hQ2 hQ3 hN1 hN2
      go_wp2_with fail
      go_roundw
      case rel => exact ⟨1, by omega, by go_num, hP4, hQ4, hL4, hB4⟩
      case measure => simp [intOf]
    · have hP := hP0
      have eu : upMax x1 x2 x3 1 = (maxF x1 x2) := rfl
      have ev : upMin y1 y2 y3 1 = (minF y1 y2) := rfl
      rw [eu, ev] at hP
      clear eu ev hP0
      obtain ⟨p0, p1, p2, p3, f0, f1, f2, f3, zp⟩ := blk4 hP
      obtain ⟨l0, l1, l2, l3, l4, l5, l6, l7, zl⟩ := blk8 hL
      go_wp2_with fail
      refine (lastR_any _ _ _ _ _ (h1.max h2) h3).mono ?_; rintro E w1 ⟨rfl, hw1⟩
      have hB1 := bel_next (hB.alloc hB.size _) hw1
      have hP1 := blk_next (blk_old hP _) hw1
      have hL1 := blk_next (blk_old hL _) hw1
      have hN1 := blk_next (blk_new wr _) hw1
      have hQ1 := blk_next (blk_old hQ _) hw1
      have hP2 : ((w1.setCell ⟨w.heap.size, 0, none⟩ (.int .i64 (maxF (maxF x1 x2) x3).1)).setCell ⟨w.heap.size, 1, none⟩ (.int .i64 (maxF (maxF x1 x2) x3).2)).heap[w.heap.size]? = some (.cells #[.int .i64 (maxF (maxF x1 x2) x3).1, .int .i64 (maxF (maxF x1 x2) x3).2, .int .i64 (minF y1 y2).1, .int .i64 (minF y1 y2).2] 122 (0, 0)) := by have := blk_at 1 (.int .i64 (maxF (maxF x1 x2) x3).2) _ (blk_at 0 (.int .i64 (maxF (maxF x1 x2) x3).1) _ hP1); rw [this]; simp
      have zg : g ≠ w.heap.size := by have := blk_lt hg; omega
      have zn : wr.heap.size ≠ w.heap.size := by omega
      have zq : w.heap.size + 1 ≠ w.heap.size := by omega
      have hL2 := blk_store2 hL1 zg (.int .i64 (maxF (maxF x1 x2) x3).1) (.int .i64 (maxF (maxF x1 x2) x3).2)
      have hN2 := blk_store2 hN1 zn (.int .i64 (maxF (maxF x1 x2) x3).1) (.int .i64 (maxF (maxF x1 x2) x3).2)
      have hQ2 := blk_store2 hQ1 zq (.int .i64 (maxF (maxF x1 x2) x3).1) (.int .i64 (maxF (maxF x1 x2) x3).2)
      have hB2 := store2_bel hB1 (Nat.le_refl _) (.int .i64 (maxF (maxF x1 x2) x3).1) (.int .i64 (maxF (maxF x1 x2) x3).2)
      obtain ⟨p0, p1, p2, p3, f0, f1, f2, f3, zp⟩ := blk4 hP1
      obtain ⟨n0, n1, n2, n3, j0, j1, j2, j3, zn1⟩ := blk4 hN1
      go_wp2_with fail
      refine (lastF_any _ _ _ _ _ (g1.min g2) g3).mono ?_; rintro E w3 ⟨rfl, hw3⟩
      have hP3 := blk_next hP2 hw3
      have hL3 := blk_next hL2 hw3
      have hQ3 := blk_next hQ2 hw3
      have hB3 := bel_next hB2 hw3
      obtain ⟨p0, p1, p2, p3, f0, f1, f2, f3, zp⟩ := blk4 hP3
      have hP4 : ((w3.setCell ⟨w.heap.size, 2, none⟩ (.int .i64 (minF (minF y1 y2) y3).1)).setCell ⟨w.heap.size, 3, none⟩ (.int .i64 (minF (minF y1 y2) y3).2)).heap[w.heap.size]? = some (.cells #[.int .i64 (maxF (maxF x1 x2) x3).1, .int .i64 (maxF (maxF x1 x2) x3).2, .int .i64 (minF (minF y1 y2) y3).1, .int .i64 (minF (minF y1 y2) y3).2] 122 (0, 0)) := by have := blk_at 3 (.int .i64 (minF (minF y1 y2) y3).2) _ (blk_at 2 (.int .i64 (minF (minF y1 y2) y3).1) _ hP3); rw [this]; simp
      have hL4 := blk_far (i := 3) (blk_far (i := 2) hL3 zg (.int .i64 (minF (minF y1 y2) y3).1)) zg (.int .i64 (minF (minF y1 y2) y3).2)
      have hQ4 := blk_far (i := 3) (blk_far (i := 2) hQ3 zq (.int .i64 (minF (minF y1 y2) y3).1)) zq (.int .i64 (minF (minF y1 y2) y3).2)
      have hB4 := (hB3.setCell (p := ⟨w.heap.size, 2, none⟩) (Nat.le_refl _) (.int .i64 (minF (minF y1 y2) y3).1)).setCell (p := ⟨w.heap.size, 3, none⟩) (Nat.le_refl _) (.int .i64 (minF (minF y1 y2) y3).2)
      clear hP hP1 hP2 hP3 hL hL1 hL2 hL3 hQ hQ1 hQ2 hQ3 hN1 hN2
      go_wp2_with fail
      go_roundw
      case rel => exact ⟨2, by omega, by go_num, hP4, hQ4, hL4, hB4⟩
      case measure => simp [intOf]
    · have hP := hP0
      have eu : upMax x1 x2 x3 2 = maxF (maxF x1 x2) x3 := rfl
      have ev : upMin y1 y2 y3 2 = minF (minF y1 y2) y3 := rfl
      rw [eu, ev] at hP
      clear eu ev hP0
      obtain ⟨p0, p1, p2, p3, f0, f1, f2, f3, zp⟩ := blk4 hP
      obtain ⟨q0, q1, q2, q3, k0, k1, k2, k3, zq⟩ := blk4 hQ
      have hQ2 := blk4_put (y0 := .int .i64 (maxF (maxF x1 x2) x3).1) (y1 := .int .i64 (maxF (maxF x1 x2) x3).2) (y2 := .int .i64 (minF (minF y1 y2) y3).1) (y3 := .int .i64 (minF (minF y1 y2) y3).2) hQ
      obtain ⟨r0, r1, r2, r3, _, _, _, _, _⟩ := blk4 hQ2
      go_wp2
      exact bodyPost_ret (v := .agg #[.int .i64 (maxF (maxF x1 x2) x3).1, .int .i64 (maxF (maxF x1 x2) x3).2, .int .i64 (minF (minF y1 y2) y3).1, .int .i64 (minF (minF y1 y2) y3).2]) (by simp [results, Tryz.results113, go_sem, r0, r1, r2, r3]) rfl ⟨rfl, store4_bel hB (by omega) _ _ _ _⟩
end Go.Proofs.YtbklgpghonigjaaGreat
