/- Blinds, rooms and plans: plain mathematics of chapter 8. -/
import Derived.Test.YtigndpajpofofaaVm
namespace Go.Proofs.Ytigndpajpofofaa
set_option linter.unusedVariables false
set_option linter.unusedSimpArgs false

/-! Bands. -/
def bdB (lo hi : Int) : Bool := decide (0 ≤ lo ∧ lo < hi ∧ hi ≤ 100)
theorem bdB_iff {lo hi : Int} : bdB lo hi = true ↔ 0 ≤ lo ∧ lo < hi ∧ hi ≤ 100 := by unfold bdB; rw [decide_eq_true_eq]
def ltV (x : Int) : Bool := inV x 0 100
def ltB (xs : List Int) : Bool := decide (xs.length ≤ 60) && xs.all ltV
theorem ltV_iff {x : Int} : ltV x = true ↔ 0 ≤ x ∧ x ≤ 100 := by unfold ltV inV; rw [decide_eq_true_eq]
theorem ltB_iff {xs : List Int} : ltB xs = true ↔ xs.length ≤ 60 ∧ ∀ x ∈ xs, 0 ≤ x ∧ x ≤ 100 := by
  unfold ltB; rw [Bool.and_eq_true, decide_eq_true_eq, List.all_eq_true]
  exact ⟨fun h => ⟨h.1, fun x hx => ltV_iff.1 (h.2 x hx)⟩, fun h => ⟨h.1, fun x hx => ltV_iff.2 (h.2 x hx)⟩⟩
/-- Behind a minute with some light, by a valid band. -/
def sgB (s : Bool) (lo hi x : Int) : Bool := if hi ≤ x then true else if x ≤ lo then false else s
def bqB (s : Bool) (lo hi x : Int) : Bool := if bdB lo hi = true then sgB s lo hi x else s
theorem sgB_hi {s : Bool} {lo hi x : Int} (h : hi ≤ x) : sgB s lo hi x = true := if_pos h
theorem sgB_lo {s : Bool} {lo hi x : Int} (h : ¬ hi ≤ x) (h2 : x ≤ lo) : sgB s lo hi x = false := by unfold sgB; rw [if_neg h, if_pos h2]
theorem sgB_mid {s : Bool} {lo hi x : Int} (h : ¬ hi ≤ x) (h2 : ¬ x ≤ lo) : sgB s lo hi x = s := by unfold sgB; rw [if_neg h, if_neg h2]
theorem bqB_yes {s : Bool} {lo hi x : Int} (h : bdB lo hi = true) : bqB s lo hi x = sgB s lo hi x := if_pos h
theorem bqB_no {s : Bool} {lo hi x : Int} (h : bdB lo hi = false) : bqB s lo hi x = s := by unfold bqB; rw [h]; rfl
def brR (lo hi : Int) : Bool → List Int → List Bool
  | _, [] => []
  | s, x :: xs => sgB s lo hi x :: brR lo hi (sgB s lo hi x) xs
def brE (lo hi : Int) : Bool → List Int → Bool
  | s, [] => s
  | s, x :: xs => brE lo hi (sgB s lo hi x) xs
theorem brR_app (lo hi : Int) : ∀ (xs : List Int) (s : Bool) (x : Int), brR lo hi s (xs ++ [x]) = brR lo hi s xs ++ [sgB (brE lo hi s xs) lo hi x]
  | [], s, x => rfl
  | y :: xs, s, x => by simp [brR, brE, brR_app lo hi xs]
theorem brE_app (lo hi : Int) : ∀ (xs : List Int) (s : Bool) (x : Int), brE lo hi s (xs ++ [x]) = sgB (brE lo hi s xs) lo hi x
  | [], s, x => rfl
  | y :: xs, s, x => by simp [brE, brE_app lo hi xs]
theorem brR_step {xs : List Int} {k : Nat} (hk : k < xs.length) (lo hi : Int) (s : Bool) : brR lo hi s (xs.take (k + 1)) = brR lo hi s (xs.take k) ++ [brE lo hi s (xs.take (k + 1))] := by
  rw [List.take_succ_eq_append_getElem hk, brR_app, brE_app]
theorem brE_step {xs : List Int} {k : Nat} (hk : k < xs.length) (lo hi : Int) (s : Bool) : brE lo hi s (xs.take (k + 1)) = sgB (brE lo hi s (xs.take k)) lo hi xs[k] := by
  rw [List.take_succ_eq_append_getElem hk, brE_app]
theorem brR_len (lo hi : Int) : ∀ (xs : List Int) (s : Bool), (brR lo hi s xs).length = xs.length
  | [], s => rfl
  | x :: xs, s => by simp [brR, brR_len lo hi xs]
def brB (lo hi : Int) (xs : List Int) : Bool := bdB lo hi && ltB xs
def brL (s : Bool) (lo hi : Int) (xs : List Int) : List Bool := if brB lo hi xs = true then brR lo hi s xs else []
theorem brB_iff {lo hi : Int} {xs : List Int} : brB lo hi xs = true ↔ bdB lo hi = true ∧ ltB xs = true := by unfold brB; rw [Bool.and_eq_true]
theorem brB_false {lo hi : Int} {xs : List Int} (h : brB lo hi xs = false) : bdB lo hi = false ∨ (bdB lo hi = true ∧ ltB xs = false) := by
  unfold brB at h
  cases h1 : bdB lo hi
  · exact .inl rfl
  · rw [h1] at h; exact .inr ⟨rfl, by simpa using h⟩
theorem brL_yes {s : Bool} {lo hi : Int} {xs : List Int} (h : brB lo hi xs = true) : brL s lo hi xs = brR lo hi s xs := if_pos h
theorem brL_no {s : Bool} {lo hi : Int} {xs : List Int} (h : brB lo hi xs = false) : brL s lo hi xs = [] := by unfold brL; rw [h]; rfl
theorem brL_len (s : Bool) (lo hi : Int) (xs : List Int) : (brL s lo hi xs).length ≤ xs.length := by
  unfold brL; split
  · rw [brR_len]; exact Nat.le_refl _
  · simp
/-! Changes. -/
def chR : Bool → List Bool → Int
  | _, [] => 0
  | p, x :: xs => (if x = p then 0 else 1) + chR x xs
def lqB : Bool → List Bool → Bool
  | p, [] => p
  | _, x :: xs => lqB x xs
theorem lqB_app : ∀ (xs : List Bool) (p x : Bool), lqB p (xs ++ [x]) = x
  | [], p, x => rfl
  | y :: xs, p, x => by simp [lqB, lqB_app xs]
theorem chR_app : ∀ (xs : List Bool) (p x : Bool), chR p (xs ++ [x]) = chR p xs + (if x = lqB p xs then 0 else 1)
  | [], p, x => by show _ + (0 : Int) = 0 + _; rw [Int.add_zero, Int.zero_add]; rfl
  | y :: xs, p, x => by simp only [List.cons_append, chR, lqB, chR_app xs]; rw [Int.add_assoc]; rfl
theorem chR_step {xs : List Bool} {k : Nat} (hk : k < xs.length) (p : Bool) : chR p (xs.take (k + 1)) = chR p (xs.take k) + (if xs[k] = lqB p (xs.take k) then 0 else 1) := by
  rw [List.take_succ_eq_append_getElem hk, chR_app]
theorem lqB_step {xs : List Bool} {k : Nat} (hk : k < xs.length) (p : Bool) : lqB p (xs.take (k + 1)) = xs[k] := by
  rw [List.take_succ_eq_append_getElem hk, lqB_app]
theorem chR_nn : ∀ (xs : List Bool) (p : Bool), 0 ≤ chR p xs ∧ chR p xs ≤ xs.length
  | [], p => by simp [chR]
  | x :: xs, p => by have := chR_nn xs x; simp only [chR, List.length_cons]; split <;> omega
theorem chR_take (xs : List Bool) (p : Bool) (k : Nat) : 0 ≤ chR p (xs.take k) ∧ chR p (xs.take k) ≤ k := by
  have h := chR_nn (xs.take k) p
  have := List.length_take_le k xs
  omega
/-! Crosses. -/
def bcR (lo hi : Int) : Bool → List Int → Int
  | _, [] => 0
  | s, x :: xs => (if sgB s lo hi x = s then 0 else 1) + bcR lo hi (sgB s lo hi x) xs
theorem bcR_ch (lo hi : Int) : ∀ (xs : List Int) (s : Bool), chR s (brR lo hi s xs) = bcR lo hi s xs
  | [], s => rfl
  | x :: xs, s => by simp only [brR, chR, bcR, bcR_ch lo hi xs]
theorem bcR_app (lo hi : Int) : ∀ (xs : List Int) (s : Bool) (x : Int), bcR lo hi s (xs ++ [x]) = bcR lo hi s xs + (if sgB (brE lo hi s xs) lo hi x = brE lo hi s xs then 0 else 1)
  | [], s, x => by show _ + (0 : Int) = 0 + _; rw [Int.add_zero, Int.zero_add]; rfl
  | y :: xs, s, x => by simp only [List.cons_append, bcR, brE, bcR_app lo hi xs]; rw [Int.add_assoc]; rfl
theorem bcR_step {xs : List Int} {k : Nat} (hk : k < xs.length) (lo hi : Int) (s : Bool) : bcR lo hi s (xs.take (k + 1)) = bcR lo hi s (xs.take k) + (if sgB (brE lo hi s (xs.take k)) lo hi xs[k] = brE lo hi s (xs.take k) then 0 else 1) := by
  rw [List.take_succ_eq_append_getElem hk, bcR_app]
theorem bcR_nn (lo hi : Int) (xs : List Int) (s : Bool) : 0 ≤ bcR lo hi s xs ∧ bcR lo hi s xs ≤ xs.length := by
  have := chR_nn (brR lo hi s xs) s
  rw [bcR_ch, brR_len] at this; exact this
theorem bcR_take (lo hi : Int) (xs : List Int) (s : Bool) (k : Nat) : 0 ≤ bcR lo hi s (xs.take k) ∧ bcR lo hi s (xs.take k) ≤ k := by
  have h := bcR_nn lo hi (xs.take k) s
  have := List.length_take_le k xs
  omega
def bcI (s : Bool) (lo hi : Int) (xs : List Int) : Int := if brB lo hi xs = true then bcR lo hi s xs else -1
theorem bcI_yes {s : Bool} {lo hi : Int} {xs : List Int} (h : brB lo hi xs = true) : bcI s lo hi xs = bcR lo hi s xs := if_pos h
theorem bcI_no {s : Bool} {lo hi : Int} {xs : List Int} (h : brB lo hi xs = false) : bcI s lo hi xs = -1 := by unfold bcI; rw [h]; rfl
/-! Blinds with a pause. -/
def psB (t lo hi p : Int) : Bool := inV t 0 20 && bdB lo hi && inV p 0 20
theorem psB_iff {t lo hi p : Int} : psB t lo hi p = true ↔ (0 ≤ t ∧ t ≤ 20) ∧ bdB lo hi = true ∧ (0 ≤ p ∧ p ≤ 20) := by
  unfold psB inV; simp [and_assoc]
theorem psB_false {t lo hi p : Int} (h : psB t lo hi p = false) : inV t 0 20 = false ∨ (inV t 0 20 = true ∧ bdB lo hi = false) ∨ (inV t 0 20 = true ∧ bdB lo hi = true ∧ inV p 0 20 = false) := by
  unfold psB at h
  cases h1 : inV t 0 20
  · exact .inl rfl
  · rw [h1] at h
    cases h2 : bdB lo hi
    · exact .inr (.inl ⟨rfl, rfl⟩)
    · rw [h2] at h; exact .inr (.inr ⟨rfl, rfl, by simpa using h⟩)
theorem psB_true {t lo hi p : Int} (h : psB t lo hi p = true) : inV t 0 20 = true ∧ bdB lo hi = true ∧ inV p 0 20 = true := by
  unfold psB at h; simpa [and_assoc] using h
/-- Whether it moves. -/
def psM (s : Bool) (t lo hi p x : Int) : Bool := !(sgB s lo hi x == s) && decide (p ≤ t)
def psS (s : Bool) (t lo hi p x : Int) : Bool := if psM s t lo hi p x = true then !s else s
def psT (s : Bool) (t lo hi p x : Int) : Int := if psM s t lo hi p x = true then 0 else min (t + 1) 20
theorem ps_mv {s : Bool} {t lo hi p x : Int} (h : sgB s lo hi x = !s) (h2 : p ≤ t) : psS s t lo hi p x = (!s) ∧ psT s t lo hi p x = 0 := by
  have : psM s t lo hi p x = true := by unfold psM; rw [h]; simp [h2]
  exact ⟨if_pos this, if_pos this⟩
theorem ps_st {s : Bool} {t lo hi p x : Int} (h : sgB s lo hi x = s) : psS s t lo hi p x = s ∧ psT s t lo hi p x = min (t + 1) 20 := by
  have : psM s t lo hi p x = false := by unfold psM; rw [h]; simp
  unfold psS psT; rw [this]; exact ⟨rfl, rfl⟩
theorem ps_wt {s : Bool} {t lo hi p x : Int} (h : ¬ p ≤ t) : psS s t lo hi p x = s ∧ psT s t lo hi p x = min (t + 1) 20 := by
  have : psM s t lo hi p x = false := by unfold psM; simp [h]
  unfold psS psT; rw [this]; exact ⟨rfl, rfl⟩
theorem psT_bd {s : Bool} {t lo hi p x : Int} (h : 0 ≤ t) : 0 ≤ psT s t lo hi p x ∧ psT s t lo hi p x ≤ 20 := by unfold psT; split <;> omega
/-- The blind of a step: shut, still; false and 0 for other arguments. -/
def pqS (s : Bool) (t lo hi p x : Int) : Bool := if psB t lo hi p = true then psS s t lo hi p x else false
def pqT (s : Bool) (t lo hi p x : Int) : Int := if psB t lo hi p = true then psT s t lo hi p x else 0
theorem pq_yes {s : Bool} {t lo hi p x : Int} (h : psB t lo hi p = true) : pqS s t lo hi p x = psS s t lo hi p x ∧ pqT s t lo hi p x = psT s t lo hi p x := ⟨if_pos h, if_pos h⟩
theorem pq_no {s : Bool} {t lo hi p x : Int} (h : psB t lo hi p = false) : pqS s t lo hi p x = false ∧ pqT s t lo hi p x = 0 := by unfold pqS pqT; rw [h]; exact ⟨rfl, rfl⟩
def paR (lo hi p : Int) : Bool → Int → List Int → List Bool
  | _, _, [] => []
  | s, t, x :: xs => psS s t lo hi p x :: paR lo hi p (psS s t lo hi p x) (psT s t lo hi p x) xs
def paS (lo hi p : Int) : Bool → Int → List Int → Bool
  | s, _, [] => s
  | s, t, x :: xs => paS lo hi p (psS s t lo hi p x) (psT s t lo hi p x) xs
def paT (lo hi p : Int) : Bool → Int → List Int → Int
  | _, t, [] => t
  | s, t, x :: xs => paT lo hi p (psS s t lo hi p x) (psT s t lo hi p x) xs
theorem pa_app (lo hi p : Int) : ∀ (xs : List Int) (s : Bool) (t x : Int),
    paR lo hi p s t (xs ++ [x]) = paR lo hi p s t xs ++ [psS (paS lo hi p s t xs) (paT lo hi p s t xs) lo hi p x] ∧ paS lo hi p s t (xs ++ [x]) = psS (paS lo hi p s t xs) (paT lo hi p s t xs) lo hi p x ∧ paT lo hi p s t (xs ++ [x]) = psT (paS lo hi p s t xs) (paT lo hi p s t xs) lo hi p x
  | [], s, t, x => ⟨rfl, rfl, rfl⟩
  | y :: xs, s, t, x => by
    obtain ⟨h1, h2, h3⟩ := pa_app lo hi p xs (psS s t lo hi p y) (psT s t lo hi p y) x
    simp only [List.cons_append, paR, paS, paT, h1, h2, h3]; exact ⟨trivial, trivial, trivial⟩
theorem pa_step {xs : List Int} {k : Nat} (hk : k < xs.length) (lo hi p : Int) (s : Bool) (t : Int) :
    paR lo hi p s t (xs.take (k + 1)) = paR lo hi p s t (xs.take k) ++ [paS lo hi p s t (xs.take (k + 1))] ∧ paS lo hi p s t (xs.take (k + 1)) = psS (paS lo hi p s t (xs.take k)) (paT lo hi p s t (xs.take k)) lo hi p xs[k] ∧ paT lo hi p s t (xs.take (k + 1)) = psT (paS lo hi p s t (xs.take k)) (paT lo hi p s t (xs.take k)) lo hi p xs[k] := by
  rw [List.take_succ_eq_append_getElem hk]
  obtain ⟨h1, h2, h3⟩ := pa_app lo hi p (xs.take k) s t xs[k]
  exact ⟨by rw [h1, h2], h2, h3⟩
theorem paR_len (lo hi p : Int) : ∀ (xs : List Int) (s : Bool) (t : Int), (paR lo hi p s t xs).length = xs.length
  | [], s, t => rfl
  | x :: xs, s, t => by simp [paR, paR_len lo hi p xs]
theorem paT_bd (lo hi p : Int) : ∀ (xs : List Int) (s : Bool) (t : Int), 0 ≤ t → t ≤ 20 → 0 ≤ paT lo hi p s t xs ∧ paT lo hi p s t xs ≤ 20
  | [], s, t, h0, h1 => ⟨h0, h1⟩
  | x :: xs, s, t, h0, h1 => by have := psT_bd (s := s) (t := t) (lo := lo) (hi := hi) (p := p) (x := x) h0; exact paT_bd lo hi p xs _ _ this.1 this.2
def paB (t lo hi p : Int) (xs : List Int) : Bool := psB t lo hi p && ltB xs
theorem paB_iff {t lo hi p : Int} {xs : List Int} : paB t lo hi p xs = true ↔ psB t lo hi p = true ∧ ltB xs = true := by unfold paB; rw [Bool.and_eq_true]
theorem paB_false {t lo hi p : Int} {xs : List Int} (h : paB t lo hi p xs = false) : psB t lo hi p = false ∨ (psB t lo hi p = true ∧ ltB xs = false) := by
  unfold paB at h
  cases h1 : psB t lo hi p
  · exact .inl rfl
  · rw [h1] at h; exact .inr ⟨rfl, by simpa using h⟩
def paL (s : Bool) (t lo hi p : Int) (xs : List Int) : List Bool := if paB t lo hi p xs = true then paR lo hi p s t xs else []
def paU (s : Bool) (t lo hi p : Int) (xs : List Int) : Bool := if paB t lo hi p xs = true then paS lo hi p s t xs else false
def paV (s : Bool) (t lo hi p : Int) (xs : List Int) : Int := if paB t lo hi p xs = true then paT lo hi p s t xs else 0
theorem pa_yes {s : Bool} {t lo hi p : Int} {xs : List Int} (h : paB t lo hi p xs = true) : paL s t lo hi p xs = paR lo hi p s t xs ∧ paU s t lo hi p xs = paS lo hi p s t xs ∧ paV s t lo hi p xs = paT lo hi p s t xs := ⟨if_pos h, if_pos h, if_pos h⟩
theorem pa_no {s : Bool} {t lo hi p : Int} {xs : List Int} (h : paB t lo hi p xs = false) : paL s t lo hi p xs = [] ∧ paU s t lo hi p xs = false ∧ paV s t lo hi p xs = 0 := by unfold paL paU paV; rw [h]; exact ⟨rfl, rfl, rfl⟩
theorem paL_len (s : Bool) (t lo hi p : Int) (xs : List Int) : (paL s t lo hi p xs).length ≤ xs.length := by
  unfold paL; split
  · rw [paR_len]; exact Nat.le_refl _
  · simp
/-! Rooms. -/
def rmB (w o k : Int) : Bool := inV w 0 500 && inV o 0 500 && inV k 2 99
theorem rmB_iff {w o k : Int} : rmB w o k = true ↔ (0 ≤ w ∧ w ≤ 500) ∧ (0 ≤ o ∧ o ≤ 500) ∧ (2 ≤ k ∧ k ≤ 99) := by unfold rmB inV; simp [and_assoc]
theorem rmB_false {w o k : Int} (h : rmB w o k = false) : inV w 0 500 = false ∨ (inV w 0 500 = true ∧ inV o 0 500 = false) ∨ (inV w 0 500 = true ∧ inV o 0 500 = true ∧ inV k 2 99 = false) := by
  unfold rmB at h
  cases h1 : inV w 0 500
  · exact .inl rfl
  · rw [h1] at h
    cases h2 : inV o 0 500
    · exact .inr (.inl ⟨rfl, rfl⟩)
    · rw [h2] at h; exact .inr (.inr ⟨rfl, rfl, by simpa using h⟩)
theorem rmB_true {w o k : Int} (h : rmB w o k = true) : inV w 0 500 = true ∧ inV o 0 500 = true ∧ inV k 2 99 = true := by unfold rmB at h; simpa [and_assoc] using h
def rsR (w o l k : Int) : Int := min (w + (o - w).tdiv k + l / 10) 500
def rqI (w o l k : Int) : Int := if (rmB w o k && inV l 0 100) = true then rsR w o l k else -1
theorem rqI_yes {w o l k : Int} (h : rmB w o k = true) (h2 : inV l 0 100 = true) : rqI w o l k = rsR w o l k := by unfold rqI; rw [h, h2]; rfl
theorem rqI_no1 {w o l k : Int} (h : rmB w o k = false) : rqI w o l k = -1 := by unfold rqI; rw [h]; rfl
theorem rqI_no2 {w o l k : Int} (h : inV l 0 100 = false) : rqI w o l k = -1 := by unfold rqI; rw [h]; simp
theorem tdv_pos {d k : Int} (hk : 0 < k) (h : 0 ≤ d) : d.tdiv k = d / k := Int.tdiv_eq_ediv_of_nonneg h
theorem tdv_neg {d k : Int} (hk : 0 < k) (h : d ≤ 0) : d.tdiv k = -((-d) / k) := by
  have : d = -(-d) := by omega
  rw [this, Int.neg_tdiv, Int.tdiv_eq_ediv_of_nonneg (by omega)]; simp
theorem ediv_half {d k : Int} (hk : 2 ≤ k) (h : 0 ≤ d) : 0 ≤ d / k ∧ 2 * (d / k) ≤ d := by
  have h1 : 0 ≤ d / k := Int.ediv_nonneg h (by omega)
  have h2 : k * (d / k) ≤ d := by have := Int.mul_ediv_add_emod d k; have := Int.emod_nonneg d (b := k) (by omega); omega
  have h3 : 2 * (d / k) ≤ k * (d / k) := Int.mul_le_mul_of_nonneg_right (by omega) h1
  omega
theorem ediv_pos {d k : Int} (hk : 2 ≤ k) (h : k ≤ d) : 1 ≤ d / k := by rw [Int.le_ediv_iff_mul_le (by omega)]; omega
theorem ediv_zero {d k : Int} (h : 0 ≤ d) (h2 : d < k) : d / k = 0 := Int.ediv_eq_zero_of_lt h h2
/-- Without light a room comes nearer to the air. -/
theorem tdv_near {d k : Int} (hk : 2 ≤ k) : (0 ≤ d → 0 ≤ d.tdiv k ∧ 2 * d.tdiv k ≤ d) ∧ (d ≤ 0 → d.tdiv k ≤ 0 ∧ d ≤ 2 * d.tdiv k) := by
  constructor
  · intro h; rw [tdv_pos (by omega) h]; exact ediv_half hk h
  · intro h; rw [tdv_neg (by omega) h]; have := ediv_half hk (d := -d) (by omega); omega
theorem tdv_zero {d k : Int} (hk : 2 ≤ k) : d.tdiv k = 0 ↔ -k < d ∧ d < k := by
  rcases Int.le_total 0 d with h | h
  · rw [tdv_pos (by omega) h]
    constructor
    · intro e
      refine ⟨by omega, ?_⟩
      rcases Int.lt_or_le d k with h2 | h2
      · exact h2
      · have := ediv_pos hk h2; omega
    · intro e; exact ediv_zero h e.2
  · rw [tdv_neg (by omega) h]
    constructor
    · intro e
      refine ⟨?_, by omega⟩
      rcases Int.lt_or_le (-d) k with h2 | h2
      · omega
      · have := ediv_pos hk h2; omega
    · intro e; rw [ediv_zero (by omega) (by omega)]; rfl
theorem lgt10 {l : Int} (h0 : 0 ≤ l) (h1 : l ≤ 100) : 0 ≤ l / 10 ∧ l / 10 ≤ 10 := by omega
theorem rsR_bd {w o l k : Int} (h : rmB w o k = true) (h0 : 0 ≤ l) (h1 : l ≤ 100) : 0 ≤ rsR w o l k ∧ rsR w o l k ≤ 500 := by
  rw [rmB_iff] at h
  have := lgt10 h0 h1
  unfold rsR
  rcases Int.le_total 0 (o - w) with hd | hd
  · have := (tdv_near h.2.2.1).1 hd; omega
  · have := (tdv_near h.2.2.1).2 hd; omega
theorem rsR_ok {w o l k : Int} (h : rmB w o k = true) (h0 : 0 ≤ l) (h1 : l ≤ 100) : rmB (rsR w o l k) o k = true := by
  have := rsR_bd h h0 h1
  rw [rmB_iff] at h ⊢
  exact ⟨this, h.2⟩
/-- A room behind minutes with light, of which some do not come in. -/
def rrR (o k : Int) : Int → List (Int × Bool) → Int
  | w, [] => w
  | w, x :: xs => rrR o k (rsR w o (if x.2 = true then 0 else x.1) k) xs
theorem rrR_app (o k : Int) : ∀ (xs : List (Int × Bool)) (w : Int) (x : Int × Bool), rrR o k w (xs ++ [x]) = rsR (rrR o k w xs) o (if x.2 = true then 0 else x.1) k
  | [], w, x => rfl
  | y :: xs, w, x => by simp only [List.cons_append, rrR, rrR_app o k xs]
theorem rrR_step {xs : List Int} {bs : List Bool} {j : Nat} (h1 : j < xs.length) (h2 : j < bs.length) (w o k : Int) : rrR o k w ((xs.zip bs).take (j + 1)) = rsR (rrR o k w ((xs.zip bs).take j)) o (if bs[j] = true then 0 else xs[j]) k := by
  rw [List.take_succ_eq_append_getElem (by rw [List.length_zip]; omega), rrR_app, List.getElem_zip]
theorem rrR_ok (o k : Int) : ∀ (xs : List (Int × Bool)) (w : Int), rmB w o k = true → (∀ x ∈ xs, 0 ≤ x.1 ∧ x.1 ≤ 100) → rmB (rrR o k w xs) o k = true
  | [], w, h, _ => h
  | x :: xs, w, h, hx => by
    have := hx x (by simp)
    exact rrR_ok o k xs _ (rsR_ok h (by split <;> omega) (by split <;> omega)) (fun y hy => hx y (by simp [hy]))
theorem zip_lt {xs : List Int} {bs : List Bool} (h : ∀ x ∈ xs, 0 ≤ x ∧ x ≤ 100) (j : Nat) : ∀ x ∈ (xs.zip bs).take j, 0 ≤ x.1 ∧ x.1 ≤ 100 := fun x hx => h x.1 (List.of_mem_zip (a := x.1) (b := x.2) (List.mem_of_mem_take hx)).1
def rrB (w o k : Int) (xs : List Int) (bs : List Bool) : Bool := rmB w o k && ltB xs && decide (bs.length = xs.length)
theorem rrB_iff {w o k : Int} {xs : List Int} {bs : List Bool} : rrB w o k xs bs = true ↔ rmB w o k = true ∧ ltB xs = true ∧ bs.length = xs.length := by unfold rrB; simp [and_assoc]
theorem rrB_false {w o k : Int} {xs : List Int} {bs : List Bool} (h : rrB w o k xs bs = false) : rmB w o k = false ∨ (rmB w o k = true ∧ ltB xs = false) ∨ (rmB w o k = true ∧ ltB xs = true ∧ bs.length ≠ xs.length) := by
  unfold rrB at h
  cases h1 : rmB w o k
  · exact .inl rfl
  · rw [h1] at h
    cases h2 : ltB xs
    · exact .inr (.inl ⟨rfl, rfl⟩)
    · rw [h2] at h; exact .inr (.inr ⟨rfl, rfl, by simpa using h⟩)
def rrI (w o k : Int) (xs : List Int) (bs : List Bool) : Int := if rrB w o k xs bs = true then rrR o k w (xs.zip bs) else -1
theorem rrI_yes {w o k : Int} {xs : List Int} {bs : List Bool} (h : rrB w o k xs bs = true) : rrI w o k xs bs = rrR o k w (xs.zip bs) := if_pos h
theorem rrI_no {w o k : Int} {xs : List Int} {bs : List Bool} (h : rrB w o k xs bs = false) : rrI w o k xs bs = -1 := by unfold rrI; rw [h]; rfl
/-- In how many minutes a room comes to rest. -/
def rtN (o k : Int) : Nat → Int → Int
  | 0, _ => 0
  | f + 1, w => if rsR w o 0 k = w then 0 else 1 + rtN o k f (rsR w o 0 k)
theorem rsR_dark {w o k : Int} (h : rmB w o k = true) : rsR w o 0 k = w + (o - w).tdiv k := by
  rw [rmB_iff] at h
  unfold rsR
  rcases Int.le_total 0 (o - w) with hd | hd
  · have := (tdv_near h.2.2.1).1 hd; omega
  · have := (tdv_near h.2.2.1).2 hd; omega
theorem rsR_less {w o k : Int} (h : rmB w o k = true) (hne : rsR w o 0 k ≠ w) : (o - rsR w o 0 k).natAbs < (o - w).natAbs := by
  rw [rsR_dark h] at hne ⊢
  rw [rmB_iff] at h
  rcases Int.le_total 0 (o - w) with hd | hd
  · have := (tdv_near h.2.2.1).1 hd; omega
  · have := (tdv_near h.2.2.1).2 hd; omega
theorem rtN_fuel (o k : Int) : ∀ (f g : Nat) (w : Int), rmB w o k = true → (o - w).natAbs ≤ f → (o - w).natAbs ≤ g → rtN o k f w = rtN o k g w
  | 0, 0, w, _, _, _ => rfl
  | 0, g + 1, w, h, hf, _ => by
    have : rsR w o 0 k = w := by
      rcases Decidable.em (rsR w o 0 k = w) with e | e
      · exact e
      · have := rsR_less h e; omega
    simp [rtN, this]
  | f + 1, 0, w, h, _, hg => by
    have : rsR w o 0 k = w := by
      rcases Decidable.em (rsR w o 0 k = w) with e | e
      · exact e
      · have := rsR_less h e; omega
    simp [rtN, this]
  | f + 1, g + 1, w, h, hf, hg => by
    unfold rtN
    split
    · rfl
    · rename_i e
      have h1 := rsR_less h e
      rw [rtN_fuel o k f g _ (rsR_ok h (by omega) (by omega)) (by omega) (by omega)]
def rtD (w o k : Int) : Int := rtN o k (o - w).natAbs w
theorem rtD_rest {w o k : Int} (h : rsR w o 0 k = w) : rtD w o k = 0 := by
  unfold rtD
  cases (o - w).natAbs with
  | zero => rfl
  | succ f => simp [rtN, h]
theorem rtD_next {w o k : Int} (h : rmB w o k = true) (hne : rsR w o 0 k ≠ w) : rtD w o k = 1 + rtD (rsR w o 0 k) o k := by
  have h1 := rsR_less h hne
  unfold rtD
  have e : ∃ f, (o - w).natAbs = f + 1 := ⟨(o - w).natAbs - 1, by omega⟩
  obtain ⟨f, hf⟩ := e
  rw [hf, rtN, if_neg hne, rtN_fuel o k f _ _ (rsR_ok h (by omega) (by omega)) (by omega) (Nat.le_refl _)]
theorem rtN_bd (o k : Int) : ∀ (f : Nat) (w : Int), 0 ≤ rtN o k f w ∧ rtN o k f w ≤ f
  | 0, w => ⟨Int.le_refl _, by simp [rtN]⟩
  | f + 1, w => by have := rtN_bd o k f (rsR w o 0 k); unfold rtN; split <;> omega
theorem rtD_bd {w o k : Int} (h : rmB w o k = true) : 0 ≤ rtD w o k ∧ rtD w o k ≤ 500 := by
  have := rtN_bd o k (o - w).natAbs w
  rw [rmB_iff] at h
  unfold rtD; omega
def rtI (w o k : Int) : Int := if rmB w o k = true then rtD w o k else -1
theorem rtI_yes {w o k : Int} (h : rmB w o k = true) : rtI w o k = rtD w o k := if_pos h
theorem rtI_no {w o k : Int} (h : rmB w o k = false) : rtI w o k = -1 := by unfold rtI; rw [h]; rfl
end Go.Proofs.Ytigndpajpofofaa
