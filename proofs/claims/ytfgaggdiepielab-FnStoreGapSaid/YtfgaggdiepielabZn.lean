/- Stores: plain mathematics of chapter 7. -/
import Derived.Test.YtfgaggdiepielabZm
namespace Go.Proofs.Ytfgaggdiepielab
set_option linter.unusedVariables false
set_option linter.unusedSimpArgs false

/-- An hour: what is gained, what is needed. -/
def hrV (h : Int × Int) : Bool := decide (0 ≤ h.1 ∧ h.1 ≤ 20 ∧ 0 ≤ h.2 ∧ h.2 ≤ 20)
theorem hrV_iff {h : Int × Int} : hrV h = true ↔ 0 ≤ h.1 ∧ h.1 ≤ 20 ∧ 0 ≤ h.2 ∧ h.2 ≤ 20 := by unfold hrV; rw [decide_eq_true_eq]
def hrB (xs : List (Int × Int)) : Bool := decide (xs.length ≤ 10) && xs.all hrV
theorem hrB_iff {xs : List (Int × Int)} : hrB xs = true ↔ xs.length ≤ 10 ∧ ∀ x ∈ xs, hrV x = true := by
  unfold hrB; rw [Bool.and_eq_true, decide_eq_true_eq, List.all_eq_true]
theorem hrB_at {xs : List (Int × Int)} (h : hrB xs = true) {i : Nat} (hi : i < xs.length) : 0 ≤ xs[i].1 ∧ xs[i].1 ≤ 20 ∧ 0 ≤ xs[i].2 ∧ xs[i].2 ≤ 20 := hrV_iff.1 ((hrB_iff.1 h).2 _ (List.getElem_mem hi))
theorem hrB_tail {x : Int × Int} {xs : List (Int × Int)} (h : hrB (x :: xs) = true) : hrB xs = true := by
  rw [hrB_iff] at h ⊢
  exact ⟨by have := h.1; simp at this; omega, fun y hy => h.2 y (by simp [hy])⟩
def stB (xs : List (Int × Int)) (holds has : Int) : Bool := hrB xs && (decide (0 ≤ holds ∧ holds ≤ 200) && decide (0 ≤ has ∧ has ≤ holds))
theorem stB_iff {xs : List (Int × Int)} {holds has : Int} : stB xs holds has = true ↔ hrB xs = true ∧ 0 ≤ holds ∧ holds ≤ 200 ∧ 0 ≤ has ∧ has ≤ holds := by
  unfold stB; simp only [Bool.and_eq_true, decide_eq_true_eq, and_assoc]
/-- What is in the store behind an hour, what lacks in it, what is lost. -/
def stS (holds has : Int) (h : Int × Int) : Int := min (max (has + h.1 - h.2) 0) holds
def laS (has : Int) (h : Int × Int) : Int := max (-(has + h.1 - h.2)) 0
def loS (holds has : Int) (h : Int × Int) : Int := max (has + h.1 - h.2 - holds) 0
def stE (holds : Int) : Int → List (Int × Int) → Int
  | has, [] => has
  | has, h :: xs => stE holds (stS holds has h) xs
def stR (holds : Int) : Int → List (Int × Int) → List Int
  | _, [] => []
  | has, h :: xs => stS holds has h :: stR holds (stS holds has h) xs
def laR (holds : Int) : Int → List (Int × Int) → Int
  | _, [] => 0
  | has, h :: xs => laS has h + laR holds (stS holds has h) xs
def loR (holds : Int) : Int → List (Int × Int) → Int
  | _, [] => 0
  | has, h :: xs => loS holds has h + loR holds (stS holds has h) xs
theorem stE_app (holds : Int) : ∀ (a b : List (Int × Int)) (has : Int), stE holds has (a ++ b) = stE holds (stE holds has a) b
  | [], b, has => rfl
  | h :: a, b, has => by simp only [List.cons_append, stE]; exact stE_app holds a b _
theorem stR_app (holds : Int) : ∀ (a b : List (Int × Int)) (has : Int), stR holds has (a ++ b) = stR holds has a ++ stR holds (stE holds has a) b
  | [], b, has => rfl
  | h :: a, b, has => by simp only [List.cons_append, stR, stE]; rw [stR_app holds a b _]
theorem laR_app (holds : Int) : ∀ (a b : List (Int × Int)) (has : Int), laR holds has (a ++ b) = laR holds has a + laR holds (stE holds has a) b
  | [], b, has => by simp [laR, stE]
  | h :: a, b, has => by simp only [List.cons_append, laR, stE]; rw [laR_app holds a b _]; omega
theorem loR_app (holds : Int) : ∀ (a b : List (Int × Int)) (has : Int), loR holds has (a ++ b) = loR holds has a + loR holds (stE holds has a) b
  | [], b, has => by simp [loR, stE]
  | h :: a, b, has => by simp only [List.cons_append, loR, stE]; rw [loR_app holds a b _]; omega
theorem stE_step {holds has : Int} {xs : List (Int × Int)} {k : Nat} (hk : k < xs.length) : stE holds has (xs.take (k + 1)) = stS holds (stE holds has (xs.take k)) xs[k] := by
  rw [List.take_succ_eq_append_getElem hk, stE_app]; rfl
theorem stR_step {holds has : Int} {xs : List (Int × Int)} {k : Nat} (hk : k < xs.length) : stR holds has (xs.take (k + 1)) = stR holds has (xs.take k) ++ [stS holds (stE holds has (xs.take k)) xs[k]] := by
  rw [List.take_succ_eq_append_getElem hk, stR_app]; rfl
theorem laR_step {holds has : Int} {xs : List (Int × Int)} {k : Nat} (hk : k < xs.length) : laR holds has (xs.take (k + 1)) = laR holds has (xs.take k) + laS (stE holds has (xs.take k)) xs[k] := by
  rw [List.take_succ_eq_append_getElem hk, laR_app]; simp [laR]
theorem loR_step {holds has : Int} {xs : List (Int × Int)} {k : Nat} (hk : k < xs.length) : loR holds has (xs.take (k + 1)) = loR holds has (xs.take k) + loS holds (stE holds has (xs.take k)) xs[k] := by
  rw [List.take_succ_eq_append_getElem hk, loR_app]; simp [loR]
theorem stR_len (holds : Int) : ∀ (xs : List (Int × Int)) (has : Int), (stR holds has xs).length = xs.length
  | [], _ => rfl
  | h :: xs, has => by simp [stR, stR_len holds xs]
theorem stR_at {holds : Int} : ∀ {xs : List (Int × Int)} {has : Int} {k : Nat} (hk : k < xs.length), (stR holds has xs)[k]? = some (stE holds has (xs.take (k + 1)))
  | [], _, _, h => by simp at h
  | x :: xs, has, 0, _ => by simp [stR, stE]
  | x :: xs, has, k + 1, h => by
    have := stR_at (holds := holds) (xs := xs) (has := stS holds has x) (k := k) (by simpa using h)
    simpa [stR, stE] using this
theorem stS_bd {holds has : Int} {h : Int × Int} (h0 : 0 ≤ holds) : 0 ≤ stS holds has h ∧ stS holds has h ≤ holds := by unfold stS; omega
theorem stE_bd {holds : Int} (h0 : 0 ≤ holds) : ∀ (xs : List (Int × Int)) (has : Int), 0 ≤ has → has ≤ holds → 0 ≤ stE holds has xs ∧ stE holds has xs ≤ holds
  | [], has, a, b => ⟨a, b⟩
  | h :: xs, has, a, b => stE_bd h0 xs _ (stS_bd h0).1 (stS_bd h0).2
theorem laR_nn (holds : Int) : ∀ (xs : List (Int × Int)) (has : Int), 0 ≤ laR holds has xs
  | [], _ => by simp [laR]
  | h :: xs, has => by have := laR_nn holds xs (stS holds has h); simp only [laR, laS]; omega
theorem loR_nn (holds : Int) : ∀ (xs : List (Int × Int)) (has : Int), 0 ≤ loR holds has xs
  | [], _ => by simp [loR]
  | h :: xs, has => by have := loR_nn holds xs (stS holds has h); simp only [loR, loS]; omega
/-- The results. -/
def stL (xs : List (Int × Int)) (holds has : Int) : List Int := if stB xs holds has = true then stR holds has xs else []
def laI (xs : List (Int × Int)) (holds has : Int) : Int := if stB xs holds has = true then laR holds has xs else -1
def loI (xs : List (Int × Int)) (holds has : Int) : Int := if stB xs holds has = true then loR holds has xs else -1
theorem stL_len (xs : List (Int × Int)) (holds has : Int) : (stL xs holds has).length ≤ 10 := by
  unfold stL; split
  · rename_i h; rw [stR_len]; exact (hrB_iff.1 (stB_iff.1 h).1).1
  · simp
theorem laR_bd {holds : Int} (h0 : 0 ≤ holds) : ∀ (xs : List (Int × Int)) (has : Int), 0 ≤ has → (∀ x ∈ xs, hrV x = true) → laR holds has xs ≤ 20 * xs.length
  | [], _, _, _ => by simp [laR]
  | h :: xs, has, a, b => by
    have h1 := laR_bd h0 xs (stS holds has h) (stS_bd h0).1 (fun y hy => b y (by simp [hy]))
    have h2 := hrV_iff.1 (b h (by simp))
    simp only [laR, laS, List.length_cons]; omega
theorem loR_bd {holds : Int} (h0 : 0 ≤ holds) : ∀ (xs : List (Int × Int)) (has : Int), has ≤ holds → (∀ x ∈ xs, hrV x = true) → loR holds has xs ≤ 20 * xs.length
  | [], _, _, _ => by simp [loR]
  | h :: xs, has, a, b => by
    have h1 := loR_bd h0 xs (stS holds has h) (stS_bd h0).2 (fun y hy => b y (by simp [hy]))
    have h2 := hrV_iff.1 (b h (by simp))
    simp only [loR, loS, List.length_cons]; omega
/-- Nothing is lost but what is told. -/
def gnS (xs : List (Int × Int)) : Int := (xs.map fun h => h.1 - h.2).sum
theorem balance {holds : Int} (h0 : 0 ≤ holds) : ∀ (xs : List (Int × Int)) (has : Int), 0 ≤ has → has ≤ holds → has + laR holds has xs + gnS xs = stE holds has xs + loR holds has xs
  | [], has, _, _ => by simp [laR, loR, gnS, stE]
  | h :: xs, has, a, b => by
    have h1 := balance h0 xs (stS holds has h) (stS_bd h0).1 (stS_bd h0).2
    have e : gnS (h :: xs) = h.1 - h.2 + gnS xs := by simp [gnS]
    simp only [laR, loR, stE, e]
    generalize laR holds (stS holds has h) xs = p at h1 ⊢
    generalize loR holds (stS holds has h) xs = q at h1 ⊢
    generalize stE holds (stS holds has h) xs = r at h1 ⊢
    unfold stS at h1; unfold laS loS; omega
/-- With more at first there is more behind each hour, by at most as much. -/
theorem stE_more {holds : Int} : ∀ (xs : List (Int × Int)) (a b : Int), a ≤ b → b ≤ a + 1 → stE holds a xs ≤ stE holds b xs ∧ stE holds b xs ≤ stE holds a xs + 1
  | [], _, _, h1, h2 => ⟨h1, h2⟩
  | h :: xs, a, b, h1, h2 => by
    have := stE_more (holds := holds) xs (stS holds a h) (stS holds b h) (by unfold stS; omega) (by unfold stS; omega)
    exact this
/-- With a greater store no more lacks and no more is lost. -/
theorem store_more {holds : Int} (h0 : 0 ≤ holds) : ∀ (xs : List (Int × Int)) (a b : Int), 0 ≤ a → a ≤ b → b ≤ a + 1 → a ≤ holds → b ≤ holds + 1 → laR (holds + 1) b xs ≤ laR holds a xs ∧ loR (holds + 1) b xs + b ≤ loR holds a xs + b
  | [], _, _, _, _, _, _, _ => by simp [laR, loR]
  | h :: xs, a, b, h1, h2, h3, h4, h5 => by
    have := store_more h0 xs (stS holds a h) (stS (holds + 1) b h) (by unfold stS; omega) (by unfold stS; omega) (by unfold stS; omega) (by unfold stS; omega) (by unfold stS; omega)
    simp only [laR, loR]
    generalize laR holds (stS holds a h) xs = p at this ⊢
    generalize loR holds (stS holds a h) xs = q at this ⊢
    generalize laR (holds + 1) (stS (holds + 1) b h) xs = r at this ⊢
    generalize loR (holds + 1) (stS (holds + 1) b h) xs = s at this ⊢
    unfold laS loS; omega
/-! Gaps. -/
def gpS (gap : Int) (h : Int × Int) : Int := max (gap + h.2 - h.1) 0
/-- The greatest gap that ends at the end (with a gap before), and the greatest one at all. -/
def gpE : Int → List (Int × Int) → Int
  | g, [] => g
  | g, h :: xs => gpE (gpS g h) xs
def gpM : Int → Int → List (Int × Int) → Int
  | _, m, [] => m
  | g, m, h :: xs => gpM (gpS g h) (max m (gpS g h)) xs
theorem gpE_app : ∀ (a b : List (Int × Int)) (g : Int), gpE g (a ++ b) = gpE (gpE g a) b
  | [], b, g => rfl
  | h :: a, b, g => by simp only [List.cons_append, gpE]; exact gpE_app a b _
theorem gpM_app : ∀ (a b : List (Int × Int)) (g m : Int), gpM g m (a ++ b) = gpM (gpE g a) (gpM g m a) b
  | [], b, g, m => rfl
  | h :: a, b, g, m => by simp only [List.cons_append, gpE, gpM]; exact gpM_app a b _ _
theorem gpE_step {xs : List (Int × Int)} {k : Nat} (hk : k < xs.length) (g : Int) : gpE g (xs.take (k + 1)) = gpS (gpE g (xs.take k)) xs[k] := by
  rw [List.take_succ_eq_append_getElem hk, gpE_app]; rfl
theorem gpM_step {xs : List (Int × Int)} {k : Nat} (hk : k < xs.length) (g m : Int) : gpM g m (xs.take (k + 1)) = max (gpM g m (xs.take k)) (gpS (gpE g (xs.take k)) xs[k]) := by
  rw [List.take_succ_eq_append_getElem hk, gpM_app]; rfl
/-- A store that is full at first: what lacks in it is told by gaps. -/
theorem lack_gap {holds : Int} (h0 : 0 ≤ holds) : ∀ (xs : List (Int × Int)) (g m : Int), 0 ≤ g → g ≤ holds → g ≤ m → m ≤ holds → (laR holds (holds - g) xs = 0 ↔ gpM g m xs ≤ holds)
  | [], g, m, _, _, _, hm => by simp [laR, gpM, hm]
  | h :: xs, g, m, h1, h2, h3, h4 => by
    have hn := laR_nn holds xs (stS holds (holds - g) h)
    have e1 : laS (holds - g) h = max (g + h.2 - h.1 - holds) 0 := by unfold laS; omega
    by_cases hc : g + h.2 - h.1 ≤ holds
    · have e : stS holds (holds - g) h = holds - gpS g h := by unfold stS gpS; omega
      have h5 : 0 ≤ gpS g h ∧ gpS g h ≤ holds := by unfold gpS; omega
      have := lack_gap h0 xs (gpS g h) (max m (gpS g h)) h5.1 h5.2 (by omega) (by omega)
      simp only [laR, gpM]
      rw [e, ← this, e1]; omega
    · constructor
      · intro hl; simp only [laR] at hl; omega
      · intro hl
        have : ∀ (xs : List (Int × Int)) (g m : Int), m ≤ gpM g m xs := by
          intro xs
          induction xs with
          | nil => intro g m; exact Int.le_refl _
          | cons x xs ih => intro g m; have := ih (gpS g x) (max m (gpS g x)); simp only [gpM]; omega
        have := this xs (gpS g h) (max m (gpS g h))
        simp only [gpM] at hl
        unfold gpS at this hl; omega
theorem gpM_ge : ∀ (xs : List (Int × Int)) (g m : Int), m ≤ gpM g m xs
  | [], g, m => Int.le_refl _
  | x :: xs, g, m => by have := gpM_ge xs (gpS g x) (max m (gpS g x)); simp only [gpM]; omega
theorem gpM_bd : ∀ (xs : List (Int × Int)) (g m : Int), g ≤ m → 0 ≤ m → (∀ x ∈ xs, hrV x = true) → gpM g m xs ≤ m + 20 * xs.length
  | [], _, _, _, _, _ => by simp [gpM]
  | h :: xs, g, m, h1, h0, h2 => by
    have h3 := hrV_iff.1 (h2 h (by simp))
    have := gpM_bd xs (gpS g h) (max m (gpS g h)) (by omega) (by omega) (fun y hy => h2 y (by simp [hy]))
    have h4 : gpS g h ≤ m + 20 ∨ gpS g h ≤ 0 := by unfold gpS; omega
    simp only [gpM, List.length_cons]
    have hg := gpM_ge xs (gpS g h) (max m (gpS g h))
    unfold gpS at *
    omega
def gapI (xs : List (Int × Int)) : Int := if hrB xs = true then gpM 0 0 xs else -1
theorem gapI_no {xs : List (Int × Int)} (h : hrB xs = false) : gapI xs = -1 := by unfold gapI; rw [h]; simp
theorem gapI_yes {xs : List (Int × Int)} (h : hrB xs = true) : gapI xs = gpM 0 0 xs := by unfold gapI; rw [h]; simp
theorem gap_bd {xs : List (Int × Int)} (h : hrB xs = true) : 0 ≤ gpM 0 0 xs ∧ gpM 0 0 xs ≤ 200 := by
  have h1 := gpM_ge xs 0 0
  have h2 := gpM_bd xs 0 0 (Int.le_refl _) (Int.le_refl _) (hrB_iff.1 h).2
  have h3 := (hrB_iff.1 h).1
  omega
/-- With a store of this size nothing lacks exactly if the gap is at most as great. -/
theorem laI_gap {xs : List (Int × Int)} (h : hrB xs = true) {holds : Int} (h0 : 0 ≤ holds) (h1 : holds ≤ 200) : laI xs holds holds = laR holds holds xs ∧ (laI xs holds holds = 0 ↔ gpM 0 0 xs ≤ holds) := by
  have e : laI xs holds holds = laR holds holds xs := by unfold laI; rw [if_pos (stB_iff.2 ⟨h, h0, h1, h0, Int.le_refl _⟩)]
  refine ⟨e, ?_⟩
  rw [e]
  have := lack_gap h0 xs 0 0 (Int.le_refl _) h0 (Int.le_refl _) h0
  simpa using this
/-- The sum of needs less gains, of a stretch. -/
def ngS (xs : List (Int × Int)) : Int := (xs.map fun h => h.2 - h.1).sum
theorem ngS_nil : ngS [] = 0 := rfl
theorem ngS_cons (h : Int × Int) (xs : List (Int × Int)) : ngS (h :: xs) = h.2 - h.1 + ngS xs := by simp [ngS]
theorem ngS_snoc (h : Int × Int) (xs : List (Int × Int)) : ngS (xs ++ [h]) = ngS xs + (h.2 - h.1) := by simp [ngS, List.sum_append]
/-- The greatest of all sums of beginnings (with a sum before). -/
def pfM : Int → Int → List (Int × Int) → Int
  | _, m, [] => m
  | s, m, h :: xs => pfM (s + h.2 - h.1) (max m (s + h.2 - h.1)) xs
theorem pfM_step {xs : List (Int × Int)} : ∀ (a b : List (Int × Int)) (s m : Int), pfM s m (a ++ b) = pfM (s + ngS a) (pfM s m a) b
  | [], b, s, m => by simp [ngS, pfM]
  | h :: a, b, s, m => by
    simp only [List.cons_append, pfM]
    rw [pfM_step (xs := xs) a b]; rw [ngS_cons]; congr 1; omega
theorem pfM_max : ∀ (xs : List (Int × Int)) (s m n : Int), pfM s (max m n) xs = max (pfM s m xs) n
  | [], s, m, n => rfl
  | h :: xs, s, m, n => by
    simp only [pfM]
    rw [show max (max m n) (s + h.2 - h.1) = max (max m (s + h.2 - h.1)) n by omega]
    exact pfM_max xs _ _ _
/-- All stretches: the greatest sum. -/
def ssM : List (Int × Int) → Int → Int
  | [], m => m
  | h :: xs, m => ssM xs (pfM 0 m (h :: xs))
theorem gpM_max : ∀ (xs : List (Int × Int)) (g m n : Int), gpM g (max m n) xs = max (gpM g m xs) n
  | [], g, m, n => rfl
  | h :: xs, g, m, n => by
    simp only [gpM]
    rw [show max (max m n) (gpS g h) = max (max m (gpS g h)) n by omega]
    exact gpM_max xs _ _ _
theorem ssM_max : ∀ (xs : List (Int × Int)) (m n : Int), ssM xs (max m n) = max (ssM xs m) n
  | [], m, n => rfl
  | h :: xs, m, n => by
    simp only [ssM]
    rw [pfM_max, ssM_max xs]
/-- A gap before, or none: the greatest is that of beginnings with it, or one without it. -/
theorem gpM_split : ∀ (xs : List (Int × Int)) (g m : Int), 0 ≤ g → 0 ≤ m → gpM g m xs = max (pfM g m xs) (gpM 0 0 xs)
  | [], g, m, h0, hm => by simp [gpM, pfM]; omega
  | h :: xs, g, m, h0, hm => by
    have h1 := gpM_split xs (gpS g h) (max m (gpS g h)) (by unfold gpS; omega) (by unfold gpS; omega)
    have h2 := gpM_split xs (gpS 0 h) (max 0 (gpS 0 h)) (by unfold gpS; omega) (by unfold gpS; omega)
    simp only [gpM, pfM]
    rw [h1, h2]
    by_cases hc : 0 ≤ g + h.2 - h.1
    · have e : gpS g h = g + h.2 - h.1 := by unfold gpS; omega
      rw [e]
      have h3 : pfM (gpS 0 h) (max 0 (gpS 0 h)) xs ≤ max (pfM (g + h.2 - h.1) (max m (g + h.2 - h.1)) xs) (gpM 0 0 xs) := by
        have mono : ∀ (xs : List (Int × Int)) (a b p q : Int), a ≤ b → p ≤ q → pfM a p xs ≤ pfM b q xs := by
          intro xs
          induction xs with
          | nil => intro a b p q _ h; exact h
          | cons x xs ih => intro a b p q h1 h2; simp only [pfM]; exact ih _ _ _ _ (by omega) (by omega)
        by_cases h4 : 0 ≤ h.2 - h.1
        · have e2 : gpS 0 h = h.2 - h.1 := by unfold gpS; omega
          rw [e2]
          have := mono xs (h.2 - h.1) (g + h.2 - h.1) (max 0 (h.2 - h.1)) (max m (g + h.2 - h.1)) (by omega) (by omega)
          omega
        · have e2 : gpS 0 h = 0 := by unfold gpS; omega
          rw [e2]
          have := mono xs 0 (g + h.2 - h.1) (max 0 0) (max m (g + h.2 - h.1)) (by omega) (by omega)
          omega
      omega
    · have e : gpS g h = 0 := by unfold gpS; omega
      have e2 : gpS 0 h = 0 := by unfold gpS; omega
      rw [e, e2]
      have h5 : max m (g + h.2 - h.1) = m := by omega
      have h6 : max m 0 = m := by omega
      rw [h5, h6]
      have h7 := pfM_max xs 0 0 m
      have h8 := pfM_max xs (g + h.2 - h.1) 0 m
      rw [show max (0 : Int) m = m by omega] at h7 h8
      rw [h7, h8]
      have mono : ∀ (xs : List (Int × Int)) (a b p q : Int), a ≤ b → p ≤ q → pfM a p xs ≤ pfM b q xs := by
        intro xs
        induction xs with
        | nil => intro a b p q _ h; exact h
        | cons x xs ih => intro a b p q h1 h2; simp only [pfM]; exact ih _ _ _ _ (by omega) (by omega)
      have h9 := mono xs (g + h.2 - h.1) 0 0 0 (by omega) (by omega)
      have h10 : gpM 0 0 xs = max (pfM 0 0 xs) (gpM 0 0 xs) := gpM_split xs 0 0 (by omega) (by omega)
      simp only [Int.max_self] at *
      omega
theorem ssM_gap : ∀ (xs : List (Int × Int)) (m : Int), 0 ≤ m → ssM xs m = max m (gpM 0 0 xs)
  | [], m, h => by simp [ssM, gpM]; omega
  | h :: xs, m, hm => by
    have e1 : pfM 0 m (h :: xs) = max (pfM 0 0 (h :: xs)) m := by
      have := pfM_max (h :: xs) 0 0 m
      rwa [show max (0 : Int) m = m by omega] at this
    have e2 := gpM_split (h :: xs) 0 0 (by omega) (by omega)
    have e3 := gpM_split xs (gpS 0 h) (max 0 (gpS 0 h)) (by unfold gpS; omega) (by unfold gpS; omega)
    have nn : ∀ (xs : List (Int × Int)) (a p : Int), p ≤ pfM a p xs := by
      intro xs
      induction xs with
      | nil => intro a p; exact Int.le_refl _
      | cons x xs ih => intro a p; simp only [pfM]; have := ih (a + x.2 - x.1) (max p (a + x.2 - x.1)); omega
    have h1 := nn (h :: xs) 0 0
    rw [ssM, ssM_gap xs _ (by rw [e1]; omega), e1]
    have e4 : gpM 0 0 (h :: xs) = max (pfM (gpS 0 h) (max 0 (gpS 0 h)) xs) (gpM 0 0 xs) := e3
    have le : gpM 0 0 xs ≤ gpM 0 0 (h :: xs) := by rw [e4]; omega
    have le2 : pfM 0 0 (h :: xs) ≤ gpM 0 0 (h :: xs) := by rw [e2]; omega
    have ge : gpM 0 0 (h :: xs) ≤ max (pfM 0 0 (h :: xs)) (gpM 0 0 xs) := by
      rw [e4]
      by_cases h4 : 0 ≤ h.2 - h.1
      · have e5 : gpS 0 h = 0 + h.2 - h.1 := by unfold gpS; omega
        rw [e5]; simp only [pfM]; omega
      · have e5 : gpS 0 h = 0 := by unfold gpS; omega
        rw [e5]
        have := gpM_split xs 0 0 (by omega) (by omega)
        simp only [Int.max_self]; omega
    omega
theorem gap_tail (h : Int × Int) (xs : List (Int × Int)) : gpM 0 0 xs ≤ gpM 0 0 (h :: xs) := by
  have e3 := gpM_split xs (gpS 0 h) (max 0 (gpS 0 h)) (by unfold gpS; omega) (by unfold gpS; omega)
  simp only [gpM]
  omega
theorem gap_sum (xs : List (Int × Int)) : ngS xs ≤ gpM 0 0 xs := by
  have h : ∀ (xs : List (Int × Int)) (g m : Int), g ≤ m → g + ngS xs ≤ gpM g m xs := by
    intro xs
    induction xs with
    | nil => intro g m h; simp [ngS, gpM]; exact h
    | cons x xs ih =>
      intro g m h
      have := ih (gpS g x) (max m (gpS g x)) (by omega)
      rw [ngS_cons]; simp only [gpM]
      unfold gpS at this ⊢; omega
  have := h xs 0 0 (Int.le_refl _)
  omega
end Go.Proofs.Ytfgaggdiepielab
