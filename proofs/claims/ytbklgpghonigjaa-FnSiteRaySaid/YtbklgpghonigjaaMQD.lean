/- QD: texts joined. -/
import Derived.Test.YtbklgpghonigjaaMQA
import Derived.Test.YtbklgpghonigjaaRows
import Derived.Test.YtbklgpghonigjaaMQC
namespace Go.Proofs.Ytbklgpghonigjaa
open Go Go.ChangeShapes Go.WideShapes Go.ChangeAt Go.RowKit
set_option linter.unusedSimpArgs false
set_option linter.unusedVariables false
theorem blk5 {w : World} {b : Nat} {x0 x1 x2 x3 x4 : Value} {t : TypeId} (h : w.heap[b]? = some (.cells #[x0, x1, x2, x3, x4] t (0, 0))) :
    w.cell? ⟨b, 0, none⟩ = some x0 ∧ w.cell? ⟨b, 1, none⟩ = some x1 ∧ w.cell? ⟨b, 2, none⟩ = some x2 ∧ w.cell? ⟨b, 3, none⟩ = some x3 ∧ w.cell? ⟨b, 4, none⟩ = some x4 ∧ w.frozen? ⟨b, 0, none⟩ = false ∧ w.frozen? ⟨b, 1, none⟩ = false ∧ w.frozen? ⟨b, 2, none⟩ = false ∧ w.frozen? ⟨b, 3, none⟩ = false ∧ w.frozen? ⟨b, 4, none⟩ = false ∧ b < w.heap.size :=
  ⟨by simp [World.cell?, h], by simp [World.cell?, h], by simp [World.cell?, h], by simp [World.cell?, h], by simp [World.cell?, h], by simp [World.frozen?, h], by simp [World.frozen?, h], by simp [World.frozen?, h], by simp [World.frozen?, h], by simp [World.frozen?, h], blk_lt h⟩
theorem blk_at {w : World} {C : Nat} {t : TypeId} (i : Nat) (v : Value) (cs : Array Value) (h : w.heap[C]? = some (.cells cs t (0, 0))) : (w.setCell ⟨C, i, none⟩ v).heap[C]? = some (.cells (cs.setIfInBounds i v) t (0, 0)) := by
  simp [World.setCell, Array.getElem?_modify, h]
end Go.Proofs.Ytbklgpghonigjaa
namespace Go.Proofs.Ytbklgpghonigjaa
set_option linter.unusedVariables false
set_option linter.unusedSimpArgs false
def inV (n a b : Int) : Bool := decide (a ≤ n ∧ n ≤ b)
def plB (e n : Int) : Bool := decide (-50 ≤ e ∧ e ≤ 50 ∧ -50 ≤ n ∧ n ≤ 50)
def blB (a b c d h : Int) : Bool := decide (-50 ≤ a ∧ a < b ∧ b ≤ 50 ∧ -50 ≤ c ∧ c < d ∧ d ≤ 50 ∧ 1 ≤ h ∧ h ≤ 30)
def ryB (e n u : Int) : Bool := decide (-20 ≤ e ∧ e ≤ 20 ∧ -20 ≤ n ∧ n ≤ 20 ∧ 1 ≤ u ∧ u ≤ 20)
/-- The start and the end, over a denominator, of the fractions for which a number that begins with p and grows by r stays in lo..hi. -/
def sN (p r lo hi : Int) : Int := if 0 < r then lo - p else if r < 0 then p - hi else if lo ≤ p ∧ p ≤ hi then 0 else 1
def eN (p r lo hi : Int) : Int := if 0 < r then hi - p else if r < 0 then p - lo else if lo ≤ p ∧ p ≤ hi then 30 else 0
def dN (r : Int) : Int := if 0 < r then r else if r < 0 then -r else 1
/-- A fraction is at most another one. -/
def Le (s d e f : Int) : Prop := s * f ≤ e * d
instance (s d e f : Int) : Decidable (Le s d e f) := by unfold Le; infer_instance
theorem Le.trans {a b c d e f : Int} (hb : 0 < b) (hd : 0 < d) (hf : 0 < f) (h1 : Le a b c d) (h2 : Le c d e f) : Le a b e f := by
  unfold Le at *
  have e1 := Int.mul_le_mul_of_nonneg_right h1 (Int.le_of_lt hf)
  have e2 := Int.mul_le_mul_of_nonneg_right h2 (Int.le_of_lt hb)
  refine Int.le_of_mul_le_mul_right (a := d) ?_ hd
  have q1 : a * f * d = a * d * f := by grind
  have q2 : e * b * d = e * d * b := by grind
  have q3 : c * b * f = c * f * b := by grind
  rw [q1, q2]; omega
theorem Le.refl (a b : Int) : Le a b a b := by unfold Le; omega
def maxF (x y : Int × Int) : Int × Int := if x.1 * y.2 < y.1 * x.2 then y else x
def minF (x y : Int × Int) : Int × Int := if y.1 * x.2 < x.1 * y.2 then y else x
/-- Each start of three intervals is at most each end. -/
def Prs (s1 e1 d1 s2 e2 d2 s3 e3 d3 : Int) : Prop :=
  (Le s1 d1 e1 d1 ∧ Le s1 d1 e2 d2 ∧ Le s1 d1 e3 d3) ∧ (Le s2 d2 e1 d1 ∧ Le s2 d2 e2 d2 ∧ Le s2 d2 e3 d3) ∧ (Le s3 d3 e1 d1 ∧ Le s3 d3 e2 d2 ∧ Le s3 d3 e3 d3)
instance (s1 e1 d1 s2 e2 d2 s3 e3 d3 : Int) : Decidable (Prs s1 e1 d1 s2 e2 d2 s3 e3 d3) := by unfold Prs; infer_instance
def PrM (pe pn a b c d h re rn ru : Int) : Prop := Prs (sN pe re a b) (eN pe re a b) (dN re) (sN pn rn c d) (eN pn rn c d) (dN rn) 0 h ru
instance (pe pn a b c d h re rn ru : Int) : Decidable (PrM pe pn a b c d h re rn ru) := by unfold PrM; infer_instance
theorem far {h ru x y : Int} (hu : 1 ≤ ru) (hh : h ≤ 30) (hy : 0 < y) (hx : 0 ≤ x) (hl : ru * x ≤ h * y) : x ≤ 30 * y := by
  have e1 : 1 * x ≤ ru * x := Int.mul_le_mul_of_nonneg_right hu hx
  have e2 : h * y ≤ 30 * y := Int.mul_le_mul_of_nonneg_right hh (Int.le_of_lt hy)
  omega
end Go.Proofs.Ytbklgpghonigjaa
namespace Go.Proofs.Ytbklgpghonigjaa
open Go Go.ChangeShapes Go.WideShapes Go.ChangeAt Go.RowKit
set_option linter.unusedSimpArgs false
set_option linter.unusedVariables false
theorem l1V_any (n a b : Int) (w : World) :
    Calls Try.prog 25 #[.int .i64 n, .int .i64 a, .int .i64 b] w fun E w' => E = .returned (.bool (inV n a b)) ∧ w = w' := by
  go_enter Try.func25, Try.ntmps25
  go_wp2
  all_goals go_ret
  all_goals exact ⟨ret_bool (by rw [Bool.eq_iff_iff]; simp [inV]; omega), rfl⟩
theorem iInV_any (n a b : Int) (w : World) :
    Calls Try.prog 43 #[.int .i64 n, .int .i64 a, .int .i64 b] w fun E w' => E = .returned (.bool (inV n a b)) ∧ w = w' := by
  go_enter Try.func43, Try.ntmps43
  go_wp2
  all_goals go_ret
  all_goals exact ⟨ret_bool (by rw [Bool.eq_iff_iff]; simp [inV]; omega), rfl⟩
theorem pnV_any (n : Int) (w : World) :
    Calls Try.prog 55 #[.int .i64 n] w fun E w' => E = .returned (.bool (inV n (-50) 50)) ∧ w = w' := by
  go_enter Try.func55, Try.ntmps55
  go_wp2_with (go_at_call 43; refine (iInV_any _ _ _ _).mono ?_; rintro e' w' ⟨rfl, rfl⟩)
  go_ret
  exact ⟨rfl, rfl⟩
set_option maxHeartbeats 1000000 in
theorem iPV_any (e n : Int) (w : World) :
    Calls Try.prog 22 #[.agg #[.int .i64 e, .int .i64 n]] w fun E w' => E = .returned (.bool (plB e n)) ∧ Below w.heap.size w w' := by
  go_enter Try.func22, Try.ntmps22
  go_wp2_with (first | (go_at_call 55; refine (pnV_any _ _).mono ?_; rintro e' w' ⟨rfl, rfl⟩) | (go_at_call 43; refine (iInV_any _ _ _ _).mono ?_; rintro e' w' ⟨rfl, rfl⟩))
  all_goals go_ret
  all_goals exact ⟨ret_bool (by simp_all [plB, inV]; try omega), bel1 _ _⟩
set_option maxHeartbeats 1000000 in
theorem sPV_any (e n : Int) (w : World) :
    Calls Try.prog 27 #[.agg #[.int .i64 e, .int .i64 n]] w fun E w' => E = .returned (.bool (plB e n)) ∧ Below w.heap.size w w' := by
  go_enter Try.func27, Try.ntmps27
  go_wp2_with (go_at_call 25; refine (l1V_any _ _ _ _).mono ?_; rintro e' w' ⟨rfl, rfl⟩)
  all_goals go_ret
  all_goals exact ⟨ret_bool (by simp_all [plB, inV]; try omega), bel1 _ _⟩
set_option maxHeartbeats 1000000 in
theorem iRV_any (e n u : Int) (w : World) :
    Calls Try.prog 15 #[.agg #[.int .i64 e, .int .i64 n, .int .i64 u]] w fun E w' => E = .returned (.bool (ryB e n u)) ∧ Below w.heap.size w w' := by
  go_enter Try.func15, Try.ntmps15
  go_wp2_with (first | (go_at_call 55; refine (pnV_any _ _).mono ?_; rintro e' w' ⟨rfl, rfl⟩) | (go_at_call 43; refine (iInV_any _ _ _ _).mono ?_; rintro e' w' ⟨rfl, rfl⟩))
  all_goals go_ret
  all_goals exact ⟨ret_bool (by simp_all [ryB, inV]; try omega), bel1 _ _⟩
set_option maxHeartbeats 1000000 in
theorem iBV_any (a b c d h : Int) (w : World) :
    Calls Try.prog 54 #[.agg #[.int .i64 a, .int .i64 b, .int .i64 c, .int .i64 d, .int .i64 h]] w fun E w' => E = .returned (.bool (blB a b c d h)) ∧ Below w.heap.size w w' := by
  go_enter Try.func54, Try.ntmps54
  go_wp2_with (first | (go_at_call 55; refine (pnV_any _ _).mono ?_; rintro e' w' ⟨rfl, rfl⟩) | (go_at_call 43; refine (iInV_any _ _ _ _).mono ?_; rintro e' w' ⟨rfl, rfl⟩))
  all_goals go_ret
  all_goals exact ⟨ret_bool (by simp_all [blB, inV]; try omega), bel1 _ _⟩
theorem l1V_is (n a b : Int) (r : Bool) (w : World) (h : inV n a b = r) : Calls Try.prog 25 #[.int .i64 n, .int .i64 a, .int .i64 b] w fun E w' => E = .returned (.bool r) ∧ w = w' := by subst h; exact l1V_any n a b w
set_option maxHeartbeats 4000000 in
theorem sBV_any (a b c d h : Int) (w : World) :
    Calls Try.prog 56 #[.agg #[.int .i64 a, .int .i64 b, .int .i64 c, .int .i64 d, .int .i64 h]] w fun E w' => E = .returned (.bool (blB a b c d h)) ∧ Below w.heap.size w w' := by
  by_cases hb : -50 ≤ b ∧ b ≤ 50
  · obtain ⟨hb0, hb1⟩ := hb
    by_cases hd : -50 ≤ d ∧ d ≤ 50
    · obtain ⟨hd0, hd1⟩ := hd
      go_enter Try.func56, Try.ntmps56
      go_wp2_with (go_at_call 25; refine (l1V_any _ _ _ _).mono ?_; rintro e' w' ⟨rfl, rfl⟩)
      all_goals go_ret
      all_goals exact ⟨ret_bool (by first | (simp_all [blB, inV]; done) | (rw [Bool.eq_iff_iff]; simp_all [blB, inV]; omega)), bel1 _ _⟩
    · have hf : inV d (-50) 50 = false := by unfold inV; exact decide_eq_false hd
      have hg : blB a b c d h = false := by unfold blB; exact decide_eq_false (by omega)
      clear hd
      rw [hg]
      have HF := Lib.hid hf
      clear hf hg
      go_enter Try.func56, Try.ntmps56
      go_wp2_with (go_at_call 25; first | ((with_reducible refine (l1V_is d (-50) 50 _ _ HF.out).mono ?_); rintro e' w' ⟨rfl, rfl⟩) | (refine (l1V_any _ _ _ _).mono ?_; rintro e' w' ⟨rfl, rfl⟩))
      all_goals go_ret
      all_goals exact ⟨by first | rfl | exact ret_bool (by simp_all), bel1 _ _⟩
  · have hf : inV b (-50) 50 = false := by unfold inV; exact decide_eq_false hb
    have hg : blB a b c d h = false := by unfold blB; exact decide_eq_false (by omega)
    clear hb
    rw [hg]
    have HF := Lib.hid hf
    clear hf hg
    go_enter Try.func56, Try.ntmps56
    go_wp2_with (go_at_call 25; first | ((with_reducible refine (l1V_is b (-50) 50 _ _ HF.out).mono ?_); rintro e' w' ⟨rfl, rfl⟩) | (refine (l1V_any _ _ _ _).mono ?_; rintro e' w' ⟨rfl, rfl⟩))
    all_goals go_ret
    all_goals exact ⟨by first | rfl | exact ret_bool (by simp_all), bel1 _ _⟩
theorem iPV_is {e n : Int} {r : Bool} (w : World) (h_ : plB e n = r) : Calls Try.prog 22 #[.agg #[.int .i64 e, .int .i64 n]] w fun E w' => E = .returned (.bool r) ∧ Below w.heap.size w w' := by subst h_; exact iPV_any e n w
theorem sPV_is {e n : Int} {r : Bool} (w : World) (h_ : plB e n = r) : Calls Try.prog 27 #[.agg #[.int .i64 e, .int .i64 n]] w fun E w' => E = .returned (.bool r) ∧ Below w.heap.size w w' := by subst h_; exact sPV_any e n w
theorem iRV_is {e n u : Int} {r : Bool} (w : World) (h_ : ryB e n u = r) : Calls Try.prog 15 #[.agg #[.int .i64 e, .int .i64 n, .int .i64 u]] w fun E w' => E = .returned (.bool r) ∧ Below w.heap.size w w' := by subst h_; exact iRV_any e n u w
theorem iBV_is {a b c d h : Int} {r : Bool} (w : World) (h_ : blB a b c d h = r) : Calls Try.prog 54 #[.agg #[.int .i64 a, .int .i64 b, .int .i64 c, .int .i64 d, .int .i64 h]] w fun E w' => E = .returned (.bool r) ∧ Below w.heap.size w w' := by subst h_; exact iBV_any a b c d h w
theorem sBV_is {a b c d h : Int} {r : Bool} (w : World) (h_ : blB a b c d h = r) : Calls Try.prog 56 #[.agg #[.int .i64 a, .int .i64 b, .int .i64 c, .int .i64 d, .int .i64 h]] w fun E w' => E = .returned (.bool r) ∧ Below w.heap.size w w' := by subst h_; exact sBV_any a b c d h w
end Go.Proofs.Ytbklgpghonigjaa
namespace Go.Proofs.Ytbklgpghonigjaa
open Go Go.ChangeShapes Go.WideShapes Go.ChangeAt Go.RowKit
set_option linter.unusedSimpArgs false
set_option linter.unusedVariables false
theorem all_no {α : Type} {p : α → Bool} {xs : List α} {k : Nat} (hk : k < xs.length) (h : p xs[k] = false) : xs.all p = false := by
  rw [List.all_eq_false]; exact ⟨xs[k], List.getElem_mem hk, by simp [h]⟩
theorem all_yes {α : Type} {p : α → Bool} {xs : List α} {k n : Nat} (hn : xs.length = n) (hk : n ≤ k) (h : (xs.take k).all p = true) : xs.all p = true := by
  rwa [List.take_of_length_le (by omega)] at h
theorem all_step {α : Type} {p : α → Bool} {xs : List α} {k : Nat} (hk : k < xs.length) (ha : (xs.take k).all p = true) (h : p xs[k] = true) : (xs.take (k + 1)).all p = true := by
  rw [List.take_succ_eq_append_getElem hk, List.all_append, ha]; simp [h]
def blV (v : VBlock) : Bool := blB v.1 v.2.1 v.2.2.1 v.2.2.2.1 v.2.2.2.2
def bsB (xs : List VBlock) : Bool := decide (xs.length ≤ 5) && xs.all blV
set_option maxHeartbeats 4000000 in
theorem iAllBlock (A : Option Addr) (cap : Nat) (xs : List VBlock) {r : Bool} {n : Nat} (w : World) (hn : xs.length = n) (h : SRow encBlock w A xs) (hl : n ≤ 2000000) (hr : xs.all blV = r) :
    Calls Try.prog 53 #[.slice A n cap, .func (.func 54) #[] #[]] w fun E w' => E = .returned (.bool r) ∧ Below w.heap.size w w' := by
  subst hr
  have HN := Lib.hid hn
  clear hn
  go_enter Try.func53, Try.ntmps53
  go_wp2_with fail
  go_loopw [9] (fun v wr => ∃ k : Nat, v = .int .i64 k ∧ k ≤ n ∧ Hid ((xs.take k).all blV = true) ∧ Below w.heap.size w wr) (fun v _ => (n - intOf v).toNat)
  case atStart => exact ⟨0, rfl, by omega, (by show _ = _; rfl), Below.refl _ _⟩
  case round =>
    obtain ⟨k, rfl, k1, HA, hB⟩ := hrel
    by_cases hlt : k < n
    · have hk : k < xs.length := by rw [HN.out]; exact hlt
      have hki : (k : Int) < (n : Int) := by omega
      obtain ⟨b, off, rfl, hb, c0, c1, c2, c3, c4⟩ := rowBlock (h.next hB) hk
      obtain ⟨v, hv⟩ : ∃ v, blV xs[k] = v := ⟨_, rfl⟩
      have HV := Lib.hid hv
      clear hv
      go_wp2_with fail
      refine (iBV_is _ HV.out).mono ?_; rintro e w1 ⟨rfl, hw1⟩
      have hB1 := bel_next (hB.alloc hB.size _) hw1
      cases v
      · go_wp2_with fail
        go_ret
        exact ⟨ret_bool (all_no hk HV.out).symm, hB1⟩
      · go_wp2_with fail
        go_roundw
        case rel => exact ⟨k + 1, by go_num, by omega, Lib.hid (all_step hk HA.out HV.out), hB1⟩
        case measure => simp [intOf]; omega
    · have hki : ¬ (k : Int) < (n : Int) := by omega
      go_wp2_with fail
      go_ret
      exact ⟨ret_bool (all_yes HN.out (by omega) HA.out).symm, hB⟩
set_option maxHeartbeats 4000000 in
theorem iBs_any (A : Option Addr) (cap : Nat) (xs : List VBlock) {n : Nat} (w : World) (hn : xs.length = n) (h : SRow encBlock w A xs) (hl : n ≤ 2000000) :
    Calls Try.prog 21 #[.slice A n cap] w fun E w' => E = .returned (.bool (bsB xs)) ∧ Below w.heap.size w w' := by
  by_cases h5 : n ≤ 5
  · have h5i : (n : Int) ≤ 5 := by omega
    obtain ⟨v, hv⟩ : ∃ v, xs.all blV = v := ⟨_, rfl⟩
    have e : bsB xs = v := by unfold bsB; rw [hn, hv]; simp [h5]
    have HE := Lib.hid e
    have HV := Lib.hid hv
    have HN := Lib.hid hn
    clear e hv hn
    go_enter Try.func21, Try.ntmps21
    go_wp2_with fail
    refine (iAllBlock A cap xs _ HN.out h hl HV.out).mono ?_; rintro e w1 ⟨rfl, hw1⟩
    go_wp2
    go_ret
    exact ⟨ret_bool HE.out.symm, hw1⟩
  · have h5i : ¬ (n : Int) ≤ 5 := by omega
    have e : bsB xs = false := by unfold bsB; rw [hn]; simp [h5]
    rw [e]
    clear e hn h
    go_enter Try.func21, Try.ntmps21
    go_wp2
    go_ret
    exact ⟨ret_bool rfl, Below.refl _ _⟩
set_option maxHeartbeats 4000000 in
theorem sBs_any (A : Option Addr) (cap : Nat) (xs : List VBlock) {n : Nat} (w : World) (hn : xs.length = n) (h : SRow encBlock w A xs) (hl : n ≤ 2000000) :
    Calls Try.prog 26 #[.slice A n cap] w fun E w' => E = .returned (.bool (bsB xs)) ∧ Below w.heap.size w w' := by
  have HN := Lib.hid hn
  clear hn
  go_enter Try.func26, Try.ntmps26
  go_wp2_with fail
  go_loopw [3] (fun v wr => ∃ k : Nat, v = .int .i64 k ∧ k ≤ n ∧ Hid ((xs.take k).all blV = true) ∧ Below w.heap.size w wr) (fun v _ => (n - intOf v).toNat)
  case atStart => exact ⟨0, rfl, by omega, (by show _ = _; rfl), Below.refl _ _⟩
  case round =>
    obtain ⟨k, rfl, k1, HA, hB⟩ := hrel
    by_cases hlt : k < n
    · have hk : k < xs.length := by rw [HN.out]; exact hlt
      have hki : (k : Int) < (n : Int) := by omega
      obtain ⟨b, off, rfl, hb, c0, c1, c2, c3, c4⟩ := rowBlock (h.next hB) hk
      obtain ⟨v, hv⟩ : ∃ v, blV xs[k] = v := ⟨_, rfl⟩
      have HV := Lib.hid hv
      clear hv
      go_wp2_with fail
      refine (sBV_is _ HV.out).mono ?_; rintro e w1 ⟨rfl, hw1⟩
      have hB1 := bel_next hB hw1
      cases v
      · go_wp2_with fail
        go_ret
        exact ⟨ret_bool (by unfold bsB; rw [all_no hk HV.out]; simp), hB1⟩
      · go_wp2_with fail
        go_roundw
        case rel => exact ⟨k + 1, by go_num, by omega, Lib.hid (all_step hk HA.out HV.out), hB1⟩
        case measure => simp [intOf]; omega
    · have hki : ¬ (k : Int) < (n : Int) := by omega
      have HX : Hid (xs.all blV = true) := all_yes HN.out (by omega) HA.out
      clear HA
      go_wp2_with fail
      go_ret
      exact ⟨ret_bool (by unfold bsB; rw [HX.out, HN.out]; rw [Bool.eq_iff_iff]; simp; try omega), hB⟩
theorem iBs_is (A : Option Addr) (cap : Nat) (xs : List VBlock) {r : Bool} {n : Nat} (w : World) (hn : xs.length = n) (h : SRow encBlock w A xs) (hl : n ≤ 2000000) (hr : bsB xs = r) : Calls Try.prog 21 #[.slice A n cap] w fun E w' => E = .returned (.bool r) ∧ Below w.heap.size w w' := by subst hr; exact iBs_any A cap xs w hn h hl
theorem sBs_is (A : Option Addr) (cap : Nat) (xs : List VBlock) {r : Bool} {n : Nat} (w : World) (hn : xs.length = n) (h : SRow encBlock w A xs) (hl : n ≤ 2000000) (hr : bsB xs = r) : Calls Try.prog 26 #[.slice A n cap] w fun E w' => E = .returned (.bool r) ∧ Below w.heap.size w w' := by subst hr; exact sBs_any A cap xs w hn h hl
end Go.Proofs.Ytbklgpghonigjaa
namespace Go.Proofs.Ytbklgpghonigjaa
open Go Go.ChangeShapes Go.WideShapes Go.ChangeAt Go.RowKit
set_option linter.unusedSimpArgs false
set_option linter.unusedVariables false
end Go.Proofs.Ytbklgpghonigjaa
namespace Go.Proofs.Ytbklgpghonigjaa
open Go Go.ChangeShapes Go.WideShapes Go.ChangeAt Go.RowKit
set_option linter.unusedSimpArgs false
set_option linter.unusedVariables false
end Go.Proofs.Ytbklgpghonigjaa
namespace Go.Proofs.Ytbklgpghonigjaa
open Go Go.ChangeShapes Go.WideShapes Go.ChangeAt Go.RowKit
set_option linter.unusedSimpArgs false
set_option linter.unusedVariables false
theorem blk6 {w : World} {b : Nat} {x0 x1 x2 x3 x4 x5 : Value} {t : TypeId} (h : w.heap[b]? = some (.cells #[x0, x1, x2, x3, x4, x5] t (0, 0))) :
    w.cell? ⟨b, 0, none⟩ = some x0 ∧ w.cell? ⟨b, 1, none⟩ = some x1 ∧ w.cell? ⟨b, 2, none⟩ = some x2 ∧ w.cell? ⟨b, 3, none⟩ = some x3 ∧ w.cell? ⟨b, 4, none⟩ = some x4 ∧ w.cell? ⟨b, 5, none⟩ = some x5 ∧ w.frozen? ⟨b, 0, none⟩ = false ∧ w.frozen? ⟨b, 1, none⟩ = false ∧ w.frozen? ⟨b, 2, none⟩ = false ∧ w.frozen? ⟨b, 3, none⟩ = false ∧ w.frozen? ⟨b, 4, none⟩ = false ∧ w.frozen? ⟨b, 5, none⟩ = false ∧ b < w.heap.size :=
  ⟨by simp [World.cell?, h], by simp [World.cell?, h], by simp [World.cell?, h], by simp [World.cell?, h], by simp [World.cell?, h], by simp [World.cell?, h], by simp [World.frozen?, h], by simp [World.frozen?, h], by simp [World.frozen?, h], by simp [World.frozen?, h], by simp [World.frozen?, h], by simp [World.frozen?, h], blk_lt h⟩
end Go.Proofs.Ytbklgpghonigjaa
namespace Go.Proofs.Ytbklgpghonigjaa
open Go Go.ChangeShapes Go.WideShapes Go.ChangeAt Go.RowKit
set_option linter.unusedSimpArgs false
set_option linter.unusedVariables false
/-- Numbers of fractions are small. -/
def FrOk (x : Int × Int) : Prop := (-100 ≤ x.1 ∧ x.1 ≤ 100) ∧ (1 ≤ x.2 ∧ x.2 ≤ 20)
theorem FrOk.max {x y : Int × Int} (hx : FrOk x) (hy : FrOk y) : FrOk (maxF x y) := by unfold maxF; split <;> assumption
theorem FrOk.min {x y : Int × Int} (hx : FrOk x) (hy : FrOk y) : FrOk (minF x y) := by unfold minF; split <;> assumption
end Go.Proofs.Ytbklgpghonigjaa
namespace Go.Proofs.Ytbklgpghonigjaa
open Go Go.ChangeShapes Go.WideShapes Go.ChangeAt Go.RowKit
set_option linter.unusedSimpArgs false
set_option linter.unusedVariables false
end Go.Proofs.Ytbklgpghonigjaa
