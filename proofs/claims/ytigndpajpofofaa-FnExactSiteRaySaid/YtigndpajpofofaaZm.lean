/- Panels, rows, stores: plain mathematics of chapter 7. -/
import Derived.Test.YtigndpajpofofaaVm
namespace Go.Proofs.Ytigndpajpofofaa
set_option linter.unusedVariables false
set_option linter.unusedSimpArgs false

/-! Faces. -/
def fcB (e n u : Int) : Bool := decide (-10 ≤ e ∧ e ≤ 10 ∧ -10 ≤ n ∧ n ≤ 10 ∧ 0 ≤ u ∧ u ≤ 10 ∧ ¬(e = 0 ∧ n = 0 ∧ u = 0))
theorem fcB_iff {e n u : Int} : fcB e n u = true ↔ -10 ≤ e ∧ e ≤ 10 ∧ -10 ≤ n ∧ n ≤ 10 ∧ 0 ≤ u ∧ u ≤ 10 ∧ ¬(e = 0 ∧ n = 0 ∧ u = 0) := by unfold fcB; rw [decide_eq_true_eq]
theorem fcB_turn (e n u : Int) : fcB (-n) e u = fcB e n u := by rw [Bool.eq_iff_iff, fcB_iff, fcB_iff]; omega
def dotI (e n u re rn ru : Int) : Int := e * re + n * rn + u * ru
def fgI (e n u re rn ru : Int) : Int := if (fcB e n u && ryB re rn ru) = true then max (dotI e n u re rn ru) 0 else -1
theorem mul_le20 {a b : Int} (h0 : -10 ≤ a) (h1 : a ≤ 10) (h2 : -20 ≤ b) (h3 : b ≤ 20) : -200 ≤ a * b ∧ a * b ≤ 200 := by
  have e1 : a * b = (a + 10) * (b + 20) - 20 * a - 10 * b - 200 := by grind
  have e2 : a * b = -((10 - a) * (b + 20)) - 20 * a + 10 * b + 200 := by grind
  have e3 : a * b = -((a + 10) * (20 - b)) + 20 * a - 10 * b + 200 := by grind
  have e4 : a * b = (10 - a) * (20 - b) + 20 * a + 10 * b - 200 := by grind
  have p1 : 0 ≤ (a + 10) * (b + 20) := Int.mul_nonneg (by omega) (by omega)
  have p2 : 0 ≤ (10 - a) * (b + 20) := Int.mul_nonneg (by omega) (by omega)
  have p3 : 0 ≤ (a + 10) * (20 - b) := Int.mul_nonneg (by omega) (by omega)
  have p4 : 0 ≤ (10 - a) * (20 - b) := Int.mul_nonneg (by omega) (by omega)
  omega
theorem dot_bd {e n u re rn ru : Int} (hf : fcB e n u = true) (hr : ryB re rn ru = true) : (-200 ≤ e * re ∧ e * re ≤ 200) ∧ (-200 ≤ n * rn ∧ n * rn ≤ 200) ∧ (-200 ≤ u * ru ∧ u * ru ≤ 200) := by
  rw [fcB_iff] at hf; rw [ryB_iff] at hr
  exact ⟨mul_le20 (by omega) (by omega) (by omega) (by omega), mul_le20 (by omega) (by omega) (by omega) (by omega), mul_le20 (by omega) (by omega) (by omega) (by omega)⟩
theorem fgI_no1 {e n u re rn ru : Int} (h : fcB e n u = false) : fgI e n u re rn ru = -1 := by unfold fgI; rw [h]; simp
theorem fgI_no2 {e n u re rn ru : Int} (h : ryB re rn ru = false) : fgI e n u re rn ru = -1 := by unfold fgI; rw [h]; simp
theorem fgI_yes {e n u re rn ru : Int} (hf : fcB e n u = true) (hr : ryB re rn ru = true) : fgI e n u re rn ru = max (dotI e n u re rn ru) 0 := by unfold fgI; rw [hf, hr]; simp
theorem fgI_bd {e n u re rn ru : Int} (hf : fcB e n u = true) (hr : ryB re rn ru = true) : 0 ≤ fgI e n u re rn ru ∧ fgI e n u re rn ru ≤ 600 := by
  have := dot_bd hf hr
  rw [fgI_yes hf hr]; unfold dotI; omega
theorem fgI_turn (e n u re rn ru : Int) : fgI (-n) e u (-rn) re ru = fgI e n u re rn ru := by
  unfold fgI
  rw [fcB_turn, ryB_turn]
  have : dotI (-n) e u (-rn) re ru = dotI e n u re rn ru := by unfold dotI; grind
  rw [this]
theorem cauchy (e n u a b c : Int) : dotI e n u a b c * dotI e n u a b c ≤ (e * e + n * n + u * u) * (a * a + b * b + c * c) := by
  unfold dotI
  have h : (e * e + n * n + u * u) * (a * a + b * b + c * c) - (e * a + n * b + u * c) * (e * a + n * b + u * c) = (e * b - n * a) * (e * b - n * a) + (e * c - u * a) * (e * c - u * a) + (n * c - u * b) * (n * c - u * b) := by grind
  have sq : ∀ x : Int, 0 ≤ x * x := fun x => by
    rcases Int.le_total 0 x with h | h
    · exact Int.mul_nonneg h h
    · have := Int.mul_nonneg (a := -x) (b := -x) (by omega) (by omega); rwa [Int.neg_mul_neg] at this
  have h1 := sq (e * b - n * a)
  have h2 := sq (e * c - u * a)
  have h3 := sq (n * c - u * b)
  omega
theorem sq_nn (x : Int) : 0 ≤ x * x := by
  rcases Int.le_total 0 x with h | h
  · exact Int.mul_nonneg h h
  · have := Int.mul_nonneg (a := -x) (b := -x) (by omega) (by omega); rwa [Int.neg_mul_neg] at this
theorem fgI_cauchy {e n u re rn ru : Int} (hf : fcB e n u = true) (hr : ryB re rn ru = true) : fgI e n u re rn ru * fgI e n u re rn ru ≤ (e * e + n * n + u * u) * (re * re + rn * rn + ru * ru) := by
  rw [fgI_yes hf hr]
  have h := cauchy e n u re rn ru
  generalize dotI e n u re rn ru = d at h ⊢
  rcases Int.le_total d 0 with h0 | h0
  · rw [Int.max_eq_right h0]
    have := sq_nn d
    simp; omega
  · rw [Int.max_eq_left h0]; exact h
/-- The sum over directions. -/
def fsT (e n u : Int) (rs : List (Int × Int × Int)) : Int := (rs.map fun r => fgI e n u r.1 r.2.1 r.2.2).sum
def ryT (r : Int × Int × Int) : Bool := ryB r.1 r.2.1 r.2.2
def fsI (e n u : Int) (rs : List (Int × Int × Int)) : Int := if (fcB e n u && rs.all ryT) = true then fsT e n u rs else -1
theorem fsT_step {e n u : Int} {rs : List (Int × Int × Int)} {k : Nat} (hk : k < rs.length) : fsT e n u (rs.take (k + 1)) = fsT e n u (rs.take k) + fgI e n u rs[k].1 rs[k].2.1 rs[k].2.2 := by
  unfold fsT
  rw [List.take_succ_eq_append_getElem hk, List.map_append, List.sum_append]; simp
theorem fsT_nil (e n u : Int) : fsT e n u [] = 0 := rfl
theorem fsT_app (e n u : Int) (a b : List (Int × Int × Int)) : fsT e n u (a ++ b) = fsT e n u a + fsT e n u b := by unfold fsT; simp
theorem fsT_bd {e n u : Int} (hf : fcB e n u = true) : ∀ (rs : List (Int × Int × Int)), rs.all ryT = true → 0 ≤ fsT e n u rs ∧ fsT e n u rs ≤ 600 * rs.length
  | [], _ => by simp [fsT]
  | r :: rs, h => by
    simp at h
    have h1 := fsT_bd hf rs (by simpa using h.2)
    have h2 := fgI_bd (re := r.1) (rn := r.2.1) (ru := r.2.2) hf (by simpa [ryT] using h.1)
    have : fsT e n u (r :: rs) = fgI e n u r.1 r.2.1 r.2.2 + fsT e n u rs := by unfold fsT; simp
    rw [this]; simp; omega
theorem fsI_split {e n u : Int} {rs : List (Int × Int × Int)} (h : 0 ≤ fsI e n u rs) (k : Nat) : fsI e n u (rs.take k) + fsI e n u (rs.drop k) = fsI e n u rs := by
  unfold fsI at h ⊢
  split at h
  · rename_i hc
    simp only [Bool.and_eq_true] at hc
    have ha : (rs.take k).all ryT = true := by
      rw [List.all_eq_true]; intro x hx; exact (List.all_eq_true.1 hc.2) x (List.mem_of_mem_take hx)
    have hb : (rs.drop k).all ryT = true := by
      rw [List.all_eq_true]; intro x hx; exact (List.all_eq_true.1 hc.2) x (List.mem_of_mem_drop hx)
    rw [hc.1, hc.2, ha, hb]
    simp
    rw [← fsT_app, List.take_append_drop]
  · omega
/-! Rows. -/
def vlB (x : Int) : Bool := decide (0 ≤ x ∧ x ≤ 50)
def rwB (xs : List Int) : Bool := decide (xs.length ≤ 10) && xs.all vlB
theorem rwB_iff {xs : List Int} : rwB xs = true ↔ xs.length ≤ 10 ∧ ∀ x ∈ xs, 0 ≤ x ∧ x ≤ 50 := by
  unfold rwB vlB; simp
theorem rwB_at {xs : List Int} (h : rwB xs = true) {i : Nat} (hi : i < xs.length) : 0 ≤ xs[i] ∧ xs[i] ≤ 50 := (rwB_iff.1 h).2 _ (List.getElem_mem hi)
/-- The least place that may be used behind the first k ones. -/
def nxP (us : List Int) : Nat → Int
  | 0 => 0
  | k + 1 => us.getD k 0 + 2
def roK (n : Int) (us : List Int) : Nat → Bool
  | 0 => true
  | k + 1 => roK n us k && decide (nxP us k ≤ us.getD k 0 ∧ us.getD k 0 ≤ n - 1)
def roB (xs us : List Int) : Bool := rwB xs && roK xs.length us us.length
theorem roK_down {n : Int} {us : List Int} : ∀ {m k : Nat}, k ≤ m → roK n us m = true → roK n us k = true
  | 0, k, h, hm => by obtain rfl : k = 0 := by omega
                      exact hm
  | m + 1, k, h, hm => by
    by_cases e : k = m + 1
    · subst e; exact hm
    · rw [roK] at hm
      simp only [Bool.and_eq_true] at hm
      exact roK_down (by omega) hm.1
theorem roK_no {n : Int} {us : List Int} {k m : Nat} (hk : k < m) (h : ¬ (nxP us k ≤ us.getD k 0 ∧ us.getD k 0 ≤ n - 1)) : roK n us m = false := by
  cases e : roK n us m
  · rfl
  · have := roK_down (k := k + 1) (by omega) e
    rw [roK] at this
    simp only [Bool.and_eq_true, decide_eq_true_eq] at this
    omega
theorem nxP_nn {n : Int} {us : List Int} : ∀ {k : Nat}, roK n us k = true → 0 ≤ nxP us k
  | 0, _ => by simp [nxP]
  | k + 1, h => by
    rw [roK] at h
    simp only [Bool.and_eq_true, decide_eq_true_eq] at h
    have := nxP_nn h.1
    rw [nxP]; omega
theorem roK_at {n : Int} {us : List Int} {k m : Nat} (hk : k < m) (h : roK n us m = true) : nxP us k ≤ us.getD k 0 ∧ us.getD k 0 ≤ n - 1 ∧ 0 ≤ nxP us k := by
  have h1 := roK_down (k := k + 1) (by omega) h
  have h2 := nxP_nn (roK_down (k := k) (by omega) h)
  rw [roK] at h1
  simp only [Bool.and_eq_true, decide_eq_true_eq] at h1
  exact ⟨h1.2.1, h1.2.2, h2⟩
/-- The sum of the values of the first k places. -/
def rsK (xs us : List Int) : Nat → Int
  | 0 => 0
  | k + 1 => rsK xs us k + xs.getD (us.getD k 0).toNat 0
def rsI (xs us : List Int) : Int := if roB xs us = true then rsK xs us us.length else -1
/-- The greatest sum of a row. -/
def bk : List Int → Int
  | [] => 0
  | x :: xs => max (bk xs) (x + bk xs.tail)
termination_by xs => xs.length
decreasing_by all_goals (simp; try omega)
theorem bk_nil : bk [] = 0 := by rw [bk]
theorem bk_cons (x : Int) (xs : List Int) : bk (x :: xs) = max (bk xs) (x + bk xs.tail) := by rw [bk]
theorem bk_snoc (x : Int) : ∀ a : List Int, bk (a ++ [x]) = max (bk a) (x + bk a.dropLast)
  | [] => by simp [bk_cons, bk_nil]
  | [y] => by simp [bk_cons, bk_nil]; omega
  | y :: z :: c => by
    have h1 := bk_snoc x (z :: c)
    have h2 := bk_snoc x c
    simp only [List.cons_append, List.dropLast_cons_cons] at h1 h2 ⊢
    rw [bk_cons, List.tail_cons, h2]
    rw [h1]
    cases c with
    | nil => simp [bk_cons, bk_nil]; omega
    | cons t c =>
      simp only [List.dropLast_cons_cons]
      rw [bk_cons y (z :: t :: c), bk_cons y (z :: _)]
      simp only [List.tail_cons]
      omega
theorem bk_rev : ∀ a : List Int, bk a.reverse = bk a
  | [] => rfl
  | [y] => rfl
  | y :: z :: c => by
    have h1 := bk_rev (z :: c)
    have h2 := bk_rev c
    have e : (y :: z :: c).reverse = (z :: c).reverse ++ [y] := by simp
    rw [e, bk_snoc, h1, bk_cons y]
    have e2 : ((z :: c).reverse).dropLast = c.reverse := by simp
    rw [e2, h2]; simp
theorem bk_nn : ∀ (a : List Int), 0 ≤ bk a
  | [] => by rw [bk_nil]; omega
  | x :: a => by rw [bk_cons]; have := bk_nn a; omega
theorem bk_tail (x : Int) (a : List Int) : bk a ≤ bk (x :: a) := by rw [bk_cons]; omega
theorem bk_add (x : Int) (a : List Int) (h : 0 ≤ x) : bk (x :: a) ≤ bk a + x := by
  rw [bk_cons]
  cases a with
  | nil => simp [bk_nil]; omega
  | cons y a => have := bk_tail y a; simp; omega
theorem bk_bd : ∀ (a : List Int), (∀ x ∈ a, 0 ≤ x ∧ x ≤ 50) → bk a ≤ 50 * a.length
  | [], _ => by rw [bk_nil]; simp
  | x :: a, h => by
    have h1 := bk_bd a (fun y hy => h y (by simp [hy]))
    have h2 := bk_add x a (h x (by simp)).1
    have h3 := (h x (by simp)).2
    simp; omega
theorem sum_nn : ∀ (a : List Int), (∀ x ∈ a, 0 ≤ x) → 0 ≤ a.sum
  | [], _ => by simp
  | x :: a, h => by
    have := sum_nn a (fun y hy => h y (by simp [hy]))
    have := h x (by simp)
    simp; omega
theorem bk_half2 : ∀ (a : List Int), a.sum ≤ bk a + bk a.tail
  | [] => by simp [bk_nil]
  | x :: a => by
    have h1 := bk_half2 a
    have h2 : x + bk a.tail ≤ bk (x :: a) := by rw [bk_cons]; omega
    simp; omega
theorem bk_half (a : List Int) : a.sum ≤ 2 * bk a := by
  have h1 := bk_half2 a
  cases a with
  | nil => simp [bk_nil]
  | cons x a => have := bk_tail x a; simp at h1 ⊢; omega
theorem bk_drop1 {xs : List Int} {k : Nat} (hk : k < xs.length) : bk (xs.drop k) = max (bk (xs.drop (k + 1))) (xs[k] + bk (xs.drop (k + 2))) := by
  rw [List.drop_eq_getElem_cons hk, bk_cons, List.tail_drop]
theorem bk_take1 {xs : List Int} {k : Nat} (hk : k < xs.length) : bk (xs.take (k + 1)) = max (bk (xs.take k)) (bk (xs.take (k - 1)) + xs[k]) := by
  rw [List.take_succ_eq_append_getElem hk, bk_snoc]
  have e : (xs.take k).dropLast = xs.take (k - 1) := by rw [List.dropLast_eq_take, List.take_take, List.length_take]; congr 1; omega
  rw [e]; omega
theorem bk_drop_end {xs : List Int} {k : Nat} (hk : xs.length ≤ k) : bk (xs.drop k) = 0 := by rw [List.drop_eq_nil_of_le hk, bk_nil]
theorem bk_drop_le (xs : List Int) : ∀ k, bk (xs.drop k) ≤ bk xs
  | 0 => by simp
  | k + 1 => by
    by_cases h : k < xs.length
    · have h1 := bk_drop_le xs k
      rw [List.drop_eq_getElem_cons h] at h1
      have := bk_tail xs[k] (xs.drop (k + 1))
      omega
    · rw [bk_drop_end (by omega)]; exact bk_nn xs
def rmI (xs : List Int) : Int := if rwB xs = true then bk xs else -1
/-- The places that are used, from a place on. -/
def rbG (xs : List Int) (p : Nat) : List Int :=
  if h : p < xs.length then
    if xs[p] + bk (xs.drop (p + 2)) = bk (xs.drop p) then (p : Int) :: rbG xs (p + 2) else rbG xs (p + 1)
  else []
termination_by xs.length - p
theorem rbG_end {xs : List Int} {p : Nat} (h : ¬ p < xs.length) : rbG xs p = [] := by rw [rbG, dif_neg h]
theorem rbG_use {xs : List Int} {p : Nat} (h : p < xs.length) (e : xs[p] + bk (xs.drop (p + 2)) = bk (xs.drop p)) : rbG xs p = (p : Int) :: rbG xs (p + 2) := by rw [rbG, dif_pos h, if_pos e]
theorem rbG_skip {xs : List Int} {p : Nat} (h : p < xs.length) (e : ¬ xs[p] + bk (xs.drop (p + 2)) = bk (xs.drop p)) : rbG xs p = rbG xs (p + 1) := by rw [rbG, dif_pos h, if_neg e]
def rbL (xs : List Int) : List Int := if rwB xs = true then rbG xs 0 else []
theorem rbG_len (xs : List Int) (p : Nat) : (rbG xs p).length ≤ xs.length - p := by
  induction h : xs.length - p using Nat.strongRecOn generalizing p with
  | _ m ih =>
    by_cases hp : p < xs.length
    · by_cases e : xs[p] + bk (xs.drop (p + 2)) = bk (xs.drop p)
      · rw [rbG_use hp e]
        have := ih (xs.length - (p + 2)) (by omega) (p + 2) rfl
        simp; omega
      · rw [rbG_skip hp e]
        have := ih (xs.length - (p + 1)) (by omega) (p + 1) rfl
        omega
    · rw [rbG_end hp]; simp
theorem rbL_len (xs : List Int) : (rbL xs).length ≤ 10 := by
  unfold rbL
  split
  · rename_i h
    have := rbG_len xs 0
    have := (rwB_iff.1 h).1
    omega
  · simp
/-! Lists of places by recursion. -/
def okF (n : Int) : Int → List Int → Bool
  | _, [] => true
  | nx, u :: us => decide (nx ≤ u ∧ u ≤ n - 1) && okF n (u + 2) us
theorem roK_okF (n : Int) : ∀ (us vs : List Int), roK n (us ++ vs) us.length = true → roK n (us ++ vs) (us ++ vs).length = okF n (nxP (us ++ vs) us.length) vs
  | us, [], h => by simp at h ⊢; rw [h]; simp [okF]
  | us, v :: vs, h => by
    have hv : (us ++ v :: vs).getD us.length 0 = v := by simp
    by_cases hc : nxP (us ++ v :: vs) us.length ≤ v ∧ v ≤ n - 1
    · have h2 : roK n (us ++ v :: vs) (us.length + 1) = true := by
        rw [roK, h, hv]; simp only [Bool.true_and, decide_eq_true_eq]; exact hc
      have h3 := roK_okF n (us ++ [v]) vs (by simpa using h2)
      have h4 : nxP (us ++ v :: vs) (us.length + 1) = v + 2 := by rw [nxP, hv]
      simp only [List.append_assoc, List.singleton_append, List.length_append, List.length_singleton] at h3
      simp only [List.length_append]
      rw [h3, h4, okF, decide_eq_true hc]; simp
    · rw [okF, decide_eq_false hc, roK_no (k := us.length) (by simp) (by rw [hv]; exact hc)]; simp
theorem roB_okF (xs us : List Int) : roB xs us = (rwB xs && okF xs.length 0 us) := by
  unfold roB
  have := roK_okF xs.length [] us rfl
  simp [nxP] at this
  rw [this]
theorem okF_mono {n : Int} : ∀ {us : List Int} {a b : Int}, a ≤ b → okF n b us = true → okF n a us = true
  | [], _, _, _, _ => rfl
  | u :: us, a, b, h, hb => by
    rw [okF] at hb ⊢
    simp only [Bool.and_eq_true, decide_eq_true_eq] at hb ⊢
    exact ⟨⟨by omega, hb.1.2⟩, hb.2⟩
def rsT (xs : List Int) (us : List Int) : Int := (us.map fun u => xs.getD u.toNat 0).sum
theorem rsK_eq (xs us : List Int) : ∀ k, k ≤ us.length → rsK xs us k = rsT xs (us.take k)
  | 0, _ => rfl
  | k + 1, h => by
    rw [rsK, rsK_eq xs us k (by omega), List.take_succ_eq_append_getElem (by omega)]
    unfold rsT
    rw [List.map_append, List.sum_append]
    simp [(by omega : k < us.length)]
theorem rsI_eq (xs us : List Int) : rsI xs us = if roB xs us = true then rsT xs us else -1 := by
  unfold rsI; rw [rsK_eq xs us us.length (Nat.le_refl _), List.take_length]
theorem rsT_le {xs : List Int} (hx : ∀ x ∈ xs, 0 ≤ x) : ∀ (us : List Int) (p : Nat), okF xs.length p us = true → rsT xs us ≤ bk (xs.drop p)
  | [], p, _ => by simp [rsT]; exact bk_nn _
  | u :: us, p, h => by
    rw [okF] at h
    simp only [Bool.and_eq_true, decide_eq_true_eq] at h
    obtain ⟨m, rfl⟩ : ∃ m : Nat, u = m := ⟨u.toNat, by omega⟩
    have hm : m < xs.length := by omega
    have h1 := rsT_le hx us (m + 2) (by have := h.2; simpa using this)
    have h2 : bk (xs.drop m) ≤ bk (xs.drop p) := by
      have := bk_drop_le (xs.drop p) (m - p)
      rw [List.drop_drop, show p + (m - p) = m by omega] at this
      exact this
    have h3 := bk_drop1 hm
    have e : rsT xs ((m : Int) :: us) = xs[m] + rsT xs us := by simp [rsT, hm]
    omega
theorem rsI_le_rm {xs us : List Int} (h : 0 ≤ rsI xs us) : rsI xs us ≤ rmI xs := by
  rw [rsI_eq] at h ⊢
  split at h
  · rename_i hc
    rw [if_pos hc]
    rw [roB_okF] at hc
    simp only [Bool.and_eq_true] at hc
    unfold rmI; rw [if_pos hc.1]
    have := rsT_le (fun x hx => ((rwB_iff.1 hc.1).2 x hx).1) us 0 (by simpa using hc.2)
    simpa using this
  · omega
theorem rbG_ok (xs : List Int) (p : Nat) : okF xs.length p (rbG xs p) = true ∧ rsT xs (rbG xs p) = bk (xs.drop p) := by
  induction h : xs.length - p using Nat.strongRecOn generalizing p with
  | _ m ih =>
    by_cases hp : p < xs.length
    · by_cases e : xs[p] + bk (xs.drop (p + 2)) = bk (xs.drop p)
      · rw [rbG_use hp e]
        have := ih (xs.length - (p + 2)) (by omega) (p + 2) rfl
        refine ⟨?_, ?_⟩
        · rw [okF]; simp only [Bool.and_eq_true, decide_eq_true_eq]; exact ⟨by omega, by simpa using this.1⟩
        · have e2 : rsT xs ((p : Int) :: rbG xs (p + 2)) = xs[p] + rsT xs (rbG xs (p + 2)) := by simp [rsT, hp]
          rw [e2, this.2, e]
      · rw [rbG_skip hp e]
        have := ih (xs.length - (p + 1)) (by omega) (p + 1) rfl
        refine ⟨okF_mono (by omega) this.1, ?_⟩
        rw [this.2]
        have := bk_drop1 hp
        omega
    · rw [rbG_end hp, bk_drop_end (by omega)]; exact ⟨rfl, rfl⟩
theorem rbL_best {xs : List Int} (h : rwB xs = true) : roB xs (rbL xs) = true ∧ rsI xs (rbL xs) = rmI xs := by
  have e : rbL xs = rbG xs 0 := by unfold rbL; rw [if_pos h]
  have h1 := rbG_ok xs 0
  have h2 : roB xs (rbG xs 0) = true := by rw [roB_okF, h]; simpa using h1.1
  rw [e]
  refine ⟨h2, ?_⟩
  rw [rsI_eq, if_pos h2, h1.2]; unfold rmI; rw [if_pos h]; simp
theorem rbL_no {xs : List Int} (h : rwB xs = false) : rbL xs = [] := by unfold rbL; rw [h]; simp
theorem bk_sum : ∀ (a : List Int), (∀ x ∈ a, 0 ≤ x) → bk a ≤ a.sum
  | [], _ => by simp [bk_nil]
  | x :: a, h => by
    have h1 := bk_sum a (fun y hy => h y (by simp [hy]))
    have h2 := bk_add x a (h x (by simp))
    simp; omega
theorem rsI_le_sum {xs us : List Int} (h : 0 ≤ rsI xs us) : rsI xs us ≤ xs.sum := by
  have h1 := rsI_le_rm h
  unfold rmI at h1
  split at h1
  · rename_i hc
    have := bk_sum xs (fun x hx => ((rwB_iff.1 hc).2 x hx).1)
    omega
  · omega
theorem rmI_no {xs : List Int} (h : rwB xs = false) : rmI xs = -1 := by unfold rmI; rw [h]; simp
theorem rmI_yes {xs : List Int} (h : rwB xs = true) : rmI xs = bk xs := by unfold rmI; rw [h]; simp
theorem rwB_rev (xs : List Int) : rwB xs.reverse = rwB xs := by unfold rwB; simp
theorem rmI_rev (xs : List Int) : rmI xs.reverse = rmI xs := by unfold rmI; rw [rwB_rev, bk_rev]
theorem rwB_tail {x : Int} {xs : List Int} (h : rwB (x :: xs) = true) : rwB xs = true := by
  rw [rwB_iff] at h ⊢
  exact ⟨by have := h.1; simp at this; omega, fun y hy => h.2 y (by simp [hy])⟩
/-- Places one behind the last one may not be used. -/
theorem okF_beside {n : Int} : ∀ {us : List Int} {nx l : Int}, us.getLast? = some l → okF n nx (us ++ [l + 1]) = false
  | [], _, _, h => by simp at h
  | [u], nx, l, h => by
    simp at h; subst h
    simp [okF]
  | u :: v :: us, nx, l, h => by
    have := okF_beside (n := n) (nx := u + 2) (us := v :: us) (l := l) (by simpa using h)
    simp only [List.cons_append] at this ⊢
    rw [okF, this]; simp
theorem roB_tail {xs us : List Int} {u : Int} (h : roB xs (u :: us) = true) : roB xs us = true := by
  rw [roB_okF] at h ⊢
  simp only [Bool.and_eq_true] at h ⊢
  refine ⟨h.1, ?_⟩
  have := h.2
  rw [okF] at this
  simp only [Bool.and_eq_true, decide_eq_true_eq] at this
  exact okF_mono (by omega) this.2
end Go.Proofs.Ytigndpajpofofaa
