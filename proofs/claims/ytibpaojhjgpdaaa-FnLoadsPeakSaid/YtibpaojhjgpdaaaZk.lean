/- Loads: plain mathematics of chapter 7. -/
import Derived.Test.YtibpaojhjgpdaaaZm
namespace Go.Proofs.Ytibpaojhjgpdaaa
set_option linter.unusedVariables false
set_option linter.unusedSimpArgs false
def ldV (v : Int × Int) : Bool := decide (0 ≤ v.1 ∧ v.1 ≤ v.2 ∧ v.2 ≤ 9)
theorem ldV_iff {v : Int × Int} : ldV v = true ↔ 0 ≤ v.1 ∧ v.1 ≤ v.2 ∧ v.2 ≤ 9 := by unfold ldV; rw [decide_eq_true_eq]
def ldB (xs : List (Int × Int)) : Bool := decide (xs.length ≤ 7) && xs.all ldV
theorem ldB_iff {xs : List (Int × Int)} : ldB xs = true ↔ xs.length ≤ 7 ∧ ∀ x ∈ xs, ldV x = true := by
  unfold ldB; rw [Bool.and_eq_true, decide_eq_true_eq, List.all_eq_true]
theorem ld_snoc7 (xs : List (Int × Int)) : ldB (xs ++ [(1, 0)]) = false := by
  have : ldV (1, 0) = false := by decide
  unfold ldB; simp [this]
theorem ld_nil7 : ldB [] = true := by decide
theorem ld_drop7 {xs : List (Int × Int)} (h : ldB xs = true) : ldB (xs.drop 1) = true := by
  rw [ldB_iff] at h ⊢
  exact ⟨by have := h.1; rw [List.length_drop]; omega, fun p hp => h.2 p (List.mem_of_mem_drop hp)⟩
/-- How many loads have all their hours in a stretch. -/
def inW (a b : Int) (v : Int × Int) : Bool := decide (a ≤ v.1) && decide (v.2 ≤ b)
def cntW (xs : List (Int × Int)) (a b : Int) : Nat := xs.countP (inW a b)
theorem cntW_step {xs : List (Int × Int)} {k : Nat} (hk : k < xs.length) (a b : Int) : cntW (xs.take (k + 1)) a b = cntW (xs.take k) a b + (if inW a b xs[k] = true then 1 else 0) := by
  unfold cntW; rw [List.take_succ_eq_append_getElem hk, List.countP_append, List.countP_singleton]
theorem cntW_le (xs : List (Int × Int)) (a b : Int) : cntW xs a b ≤ xs.length := List.countP_le_length
def clI (n a b : Int) : Int := (n + b - a) / (b - a + 1)
/-- The greatest, over the ends a, a + 1 .. a + j - 1. -/
def lbN (xs : List (Int × Int)) (a : Int) : Nat → Int → Int
  | 0, m => m
  | j + 1, m => max (lbN xs a j m) (clI (cntW xs a (a + j)) a (a + j))
def lbO (xs : List (Int × Int)) : Nat → Int
  | 0 => 0
  | a + 1 => lbN xs a (10 - a) (lbO xs a)
def lbI (xs : List (Int × Int)) : Int := if ldB xs = true then lbO xs 10 else -1
theorem lbI_no {xs : List (Int × Int)} (h : ldB xs = false) : lbI xs = -1 := by unfold lbI; rw [h]; simp
theorem lbI_yes {xs : List (Int × Int)} (h : ldB xs = true) : lbI xs = lbO xs 10 := by unfold lbI; rw [if_pos h]
theorem clI_nn {n a b : Int} (hn : 0 ≤ n) (h : a ≤ b) : 0 ≤ clI n a b := by unfold clI; exact Int.ediv_nonneg (by omega) (by omega)
theorem clI_mono {n a b : Int} (h : a ≤ b) : clI n a b ≤ clI (n + 1) a b ∧ clI (n + 1) a b ≤ clI n a b + 1 := by
  unfold clI
  constructor
  · exact Int.ediv_le_ediv (by omega) (by omega)
  · have h1 : (n + b - a) / (b - a + 1) + 1 = (n + b - a + (b - a + 1) * 1) / (b - a + 1) := by rw [Int.add_mul_ediv_left _ _ (by omega)]
    rw [h1]
    exact Int.ediv_le_ediv (by omega) (by omega)
theorem cntW_cons (v : Int × Int) (xs : List (Int × Int)) (a b : Int) : cntW (v :: xs) a b = cntW xs a b ∨ cntW (v :: xs) a b = cntW xs a b + 1 := by
  unfold cntW; rw [List.countP_cons]; split
  · right; rfl
  · left; rfl
theorem clI_cons (v : Int × Int) (xs : List (Int × Int)) {a b : Int} (h : a ≤ b) : clI (cntW xs a b) a b ≤ clI (cntW (v :: xs) a b) a b ∧ clI (cntW (v :: xs) a b) a b ≤ clI (cntW xs a b) a b + 1 := by
  rcases cntW_cons v xs a b with e | e
  · rw [e]; omega
  · rw [e]; push_cast; exact clI_mono h
theorem lbN_cons (v : Int × Int) (xs : List (Int × Int)) (a : Int) : ∀ (j : Nat) (m m' : Int), m' ≤ m → m ≤ m' + 1 → lbN xs a j m' ≤ lbN (v :: xs) a j m ∧ lbN (v :: xs) a j m ≤ lbN xs a j m' + 1
  | 0, m, m', h1, h2 => ⟨h1, h2⟩
  | j + 1, m, m', h1, h2 => by
    have h3 := lbN_cons v xs a j m m' h1 h2
    have h4 := clI_cons v xs (a := a) (b := a + j) (by omega)
    simp only [lbN]; omega
theorem lbO_cons (v : Int × Int) (xs : List (Int × Int)) : ∀ a : Nat, lbO xs a ≤ lbO (v :: xs) a ∧ lbO (v :: xs) a ≤ lbO xs a + 1
  | 0 => by simp [lbO]
  | a + 1 => by
    have h := lbO_cons v xs a
    exact lbN_cons v xs a (10 - a) _ _ h.1 h.2
theorem lbN_ge (xs : List (Int × Int)) (a : Int) : ∀ (j : Nat) (m : Int), m ≤ lbN xs a j m
  | 0, m => Int.le_refl _
  | j + 1, m => by have := lbN_ge xs a j m; simp only [lbN]; omega
theorem lbO_nn (xs : List (Int × Int)) : ∀ a : Nat, 0 ≤ lbO xs a
  | 0 => by simp [lbO]
  | a + 1 => by have := lbO_nn xs a; have := lbN_ge xs a (10 - a) (lbO xs a); simp only [lbO]; omega
theorem lbN_nil (a : Int) : ∀ (j : Nat), lbN [] a j 0 = 0
  | 0 => rfl
  | j + 1 => by
    simp only [lbN, lbN_nil a j]
    have : clI (cntW [] a (a + j)) a (a + j) = 0 := by
      unfold clI cntW; simp
      exact Int.ediv_eq_zero_of_lt (by omega) (by omega)
    omega
theorem lbO_nil : ∀ a : Nat, lbO [] a = 0
  | 0 => rfl
  | a + 1 => by simp only [lbO, lbO_nil a]; exact lbN_nil a _
theorem lb_law {xs : List (Int × Int)} (h : ldB xs = true) (hn : 0 < xs.length) : lbI (xs.drop 1) = lbI xs ∨ lbI (xs.drop 1) = lbI xs - 1 := by
  rw [lbI_yes h, lbI_yes (ld_drop7 h)]
  cases xs with
  | nil => simp at hn
  | cons v xs => have := lbO_cons v xs 10; simp; omega
theorem clI_le {n a b : Int} (hn : 0 ≤ n) (h : a ≤ b) : clI n a b ≤ n := by
  unfold clI
  have h1 : (n + b - a) / (b - a + 1) < n + 1 := by
    rw [Int.ediv_lt_iff_lt_mul (by omega)]
    have e : (n + 1) * (b - a + 1) = n * (b - a) + n + (b - a) + 1 := by grind
    have : 0 ≤ n * (b - a) := Int.mul_nonneg hn (by omega)
    omega
  omega
theorem lbN_le (xs : List (Int × Int)) (a : Int) {c : Int} (hc : xs.length ≤ c) : ∀ (j : Nat) (m : Int), m ≤ c → lbN xs a j m ≤ c
  | 0, m, h => h
  | j + 1, m, h => by
    have h1 := lbN_le xs a hc j m h
    have h2 := clI_le (n := (cntW xs a (a + j) : Int)) (a := a) (b := a + j) (by omega) (by omega)
    have h3 := cntW_le xs a (a + j)
    simp only [lbN]; omega
theorem lbO_le (xs : List (Int × Int)) {c : Int} (hc : xs.length ≤ c) : ∀ a : Nat, lbO xs a ≤ c
  | 0 => by simp [lbO]; omega
  | a + 1 => lbN_le xs a hc _ _ (lbO_le xs hc a)
theorem lbO_bd {xs : List (Int × Int)} (h : ldB xs = true) : lbO xs 10 ≤ 1000 := by
  have h1 := (ldB_iff.1 h).1
  have := lbO_le xs (c := xs.length) (Int.le_refl _) 10
  omega
end Go.Proofs.Ytibpaojhjgpdaaa
