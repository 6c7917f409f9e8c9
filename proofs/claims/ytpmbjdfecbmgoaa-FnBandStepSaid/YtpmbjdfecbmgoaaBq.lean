/- What the laws of bands, pauses and rooms say of the mathematics of chapter 8. -/
import Derived.Test.YtpmbjdfecbmgoaaBm
namespace Go.Proofs.Ytpmbjdfecbmgoaa
set_option linter.unusedVariables false
set_option linter.unusedSimpArgs false

theorem bdB_more {lo hi : Int} (h : bdB lo hi = true) (hne : lo + 1 ≠ hi) : bdB (lo + 1) hi = true := by rw [bdB_iff] at *; omega
theorem bdB_eq (x : Int) : bdB x x = false := by unfold bdB; exact decide_eq_false (by omega)
theorem bdB_wide {lo hi : Int} (h : bdB lo hi = true) : bdB (max (lo - 1) 0) (min (hi + 1) 100) = true := by rw [bdB_iff] at *; omega
theorem ltB_dark {n : Nat} (h : n ≤ 60) : ltB (List.replicate n 0) = true := by
  rw [ltB_iff]
  exact ⟨by simpa using h, fun x hx => by rw [List.eq_of_mem_replicate hx]; omega⟩
theorem ltB_neg (xs : List Int) : ltB (-1 :: xs) = false := by
  cases h : ltB (-1 :: xs)
  · rfl
  · have := (ltB_iff.1 h).2 (-1) (by simp); omega
theorem ltB_tail {x : Int} {xs : List Int} (h : ltB (x :: xs) = true) : ltB xs = true := by
  rw [ltB_iff] at *
  exact ⟨by have := h.1; simp at this; omega, fun y hy => h.2 y (by simp [hy])⟩
theorem ltB_twice {x : Int} {xs : List Int} (h : ltB (x :: xs) = true) (hl : (x :: xs).length < 60) : ltB (x :: x :: xs) = true := by
  rw [ltB_iff] at *
  exact ⟨by simp at hl ⊢; omega, fun y hy => h.2 y (by rcases List.mem_cons.1 hy with e | e <;> first | exact e | simp [e])⟩
theorem ltB_take {xs : List Int} (h : ltB xs = true) (k : Nat) : ltB (xs.take k) = true := by
  rw [ltB_iff] at *
  exact ⟨by have := List.length_take_le k xs; have := List.length_take_le' k xs; omega, fun y hy => h.2 y (List.mem_of_mem_take hy)⟩
theorem ltB_drop {xs : List Int} (h : ltB xs = true) (k : Nat) : ltB (xs.drop k) = true := by
  rw [ltB_iff] at *
  exact ⟨by simp; omega, fun y hy => h.2 y (List.mem_of_mem_drop hy)⟩
theorem sgB_twice (s : Bool) (lo hi x : Int) : sgB (sgB s lo hi x) lo hi x = sgB s lo hi x := by
  unfold sgB; split
  · rfl
  · split <;> rfl
theorem bqB_twice (s : Bool) (lo hi x : Int) : bqB (bqB s lo hi x) lo hi x = bqB s lo hi x := by
  unfold bqB; split
  · exact sgB_twice _ _ _ _
  · rfl
theorem bqB_mid {s : Bool} {lo hi x : Int} (h : ¬ hi ≤ x) (h2 : ¬ x ≤ lo) : bqB s lo hi x = s := by
  unfold bqB; split
  · exact sgB_mid h h2
  · rfl
theorem bcR_wide {lo hi lo' hi' : Int} (h0 : lo < hi) (h1 : lo' ≤ lo) (h2 : hi ≤ hi') : ∀ (xs : List Int) (s s' : Bool), bcR lo' hi' s' xs ≤ bcR lo hi s xs + (if s = s' then 0 else 1)
  | [], s, s' => by simp only [bcR]; split <;> omega
  | x :: xs, s, s' => by
    have ih := bcR_wide h0 h1 h2 xs
    simp only [bcR]
    by_cases a : hi' ≤ x
    · rw [sgB_hi a, sgB_hi (lo := lo) (by omega : hi ≤ x)]
      have := ih true true
      cases s <;> cases s' <;> simp at this ⊢ <;> omega
    · by_cases b : hi ≤ x
      · rw [sgB_hi b, sgB_mid a (by omega)]
        have := ih true s'
        cases s <;> cases s' <;> simp at this ⊢ <;> omega
      · by_cases c : x ≤ lo'
        · rw [sgB_lo a c, sgB_lo b (by omega)]
          have := ih false false
          cases s <;> cases s' <;> simp at this ⊢ <;> omega
        · by_cases d : x ≤ lo
          · rw [sgB_lo b d, sgB_mid a c]
            have := ih false s'
            cases s <;> cases s' <;> simp at this ⊢ <;> omega
          · rw [sgB_mid b d, sgB_mid a c]
            have := ih s s'
            cases s <;> cases s' <;> simp at this ⊢ <;> omega
theorem bcR_wider {lo hi : Int} (h : bdB lo hi = true) (xs : List Int) (s : Bool) : bcR (max (lo - 1) 0) (min (hi + 1) 100) s xs ≤ bcR lo hi s xs := by
  rw [bdB_iff] at h
  have := bcR_wide (lo' := max (lo - 1) 0) (hi' := min (hi + 1) 100) h.2.1 (by omega) (by omega) xs s s
  simpa using this
theorem chR_split : ∀ (a b : List Bool) (p : Bool), chR p (a ++ b) = chR p a + chR (lqB p a) b
  | [], b, p => by simp [chR, lqB]
  | x :: a, b, p => by simp only [List.cons_append, chR, lqB, chR_split a b x]; exact (Int.add_assoc _ _ _).symm
theorem chR_half (xs : List Bool) (p : Bool) (k : Nat) : chR p (xs.take k) + chR (lqB p (xs.take k)) (xs.drop k) = chR p xs := by
  rw [← chR_split, List.take_append_drop]
theorem chR_odd : ∀ (xs : List Bool) (p : Bool), chR p xs % 2 = if lqB p xs = p then 0 else 1
  | [], p => by simp [chR, lqB]
  | x :: xs, p => by
    have := chR_odd xs x
    simp only [chR, lqB]
    have key : ∀ (n : Int) (x p q : Bool), n % 2 = (if q = x then 0 else 1) → ((if x = p then 0 else 1) + n) % 2 = (if q = p then 0 else 1) := by
      intro n x p q; cases x <;> cases p <;> cases q <;> simp <;> omega
    exact key _ x p _ this
theorem bcR_zero {lo hi : Int} : ∀ (xs : List Int) (s : Bool), (∀ x ∈ xs, ¬ x ≤ lo ∧ ¬ hi ≤ x) → bcR lo hi s xs = 0
  | [], s, _ => rfl
  | x :: xs, s, h => by
    have hx := h x (by simp)
    simp only [bcR]
    rw [sgB_mid hx.2 hx.1, bcR_zero xs s (fun y hy => h y (by simp [hy]))]; simp
theorem bcR_dup (lo hi : Int) (s : Bool) (x : Int) (xs : List Int) : bcR lo hi s (x :: x :: xs) = bcR lo hi s (x :: xs) := by
  simp only [bcR]; rw [sgB_twice]; simp
/-! Pauses. -/
theorem psS_valid {s : Bool} {t lo hi p x : Int} (h : psB t lo hi p = true) : 0 ≤ psT s t lo hi p x ∧ psT s t lo hi p x ≤ 20 := psT_bd (psB_iff.1 h).1.1
theorem psM_iff {s : Bool} {t lo hi p x : Int} : psM s t lo hi p x = true ↔ sgB s lo hi x ≠ s ∧ p ≤ t := by unfold psM; simp
theorem psS_ne {s : Bool} {t lo hi p x : Int} : psS s t lo hi p x ≠ s ↔ psM s t lo hi p x = true := by unfold psS; cases psM s t lo hi p x <;> simp
theorem psT_zero {s : Bool} {t lo hi p x : Int} (h : 0 ≤ t) : psT s t lo hi p x = 0 ↔ psM s t lo hi p x = true := by unfold psT; cases psM s t lo hi p x <;> simp <;> omega
theorem paR_free (lo hi : Int) : ∀ (xs : List Int) (s : Bool) (t : Int), 0 ≤ t → paR lo hi 0 s t xs = brR lo hi s xs
  | [], s, t, _ => rfl
  | x :: xs, s, t, h => by
    have e : psS s t lo hi 0 x = sgB s lo hi x := by
      unfold psS psM
      cases s <;> cases h2 : sgB _ lo hi x <;> simp [h]
    simp only [paR, brR]; rw [e, paR_free lo hi xs _ _ (psT_bd h).1]
theorem paR_last (lo hi p : Int) : ∀ (xs : List Int) (s : Bool) (t : Int), lqB s (paR lo hi p s t xs) = paS lo hi p s t xs
  | [], s, t => rfl
  | x :: xs, s, t => by simp only [paR, lqB, paS]; exact paR_last lo hi p xs _ _
theorem paR_take (lo hi p : Int) : ∀ (xs : List Int) (s : Bool) (t : Int) (k : Nat), (paR lo hi p s t xs).take k = paR lo hi p s t (xs.take k)
  | [], s, t, k => by simp [paR]
  | x :: xs, s, t, 0 => rfl
  | x :: xs, s, t, k + 1 => by simp only [paR, List.take_succ_cons]; rw [paR_take lo hi p xs]
theorem paR_at {lo hi p : Int} {xs : List Int} {s : Bool} {t : Int} {k : Nat} (hk : k < xs.length) (hk2 : k < (paR lo hi p s t xs).length) : (paR lo hi p s t xs)[k] = paS lo hi p s t (xs.take (k + 1)) := by
  have h1 := paR_take lo hi p xs s t (k + 1)
  rw [(pa_step hk lo hi p s t).1, List.take_succ_eq_append_getElem hk2, paR_take] at h1
  have := List.append_cancel_left h1
  simpa using this
/-- How long a blind has stood still: at most since its last move. -/
theorem pa_since {lo hi p : Int} {xs : List Int} {s : Bool} {t : Int} {k : Nat} (hk : k < xs.length) (h0 : 0 ≤ t) (h1 : t ≤ 20) {at_ : Int} (hat : paT lo hi p s t (xs.take k) ≤ k - 1 - at_) :
    (paS lo hi p s t (xs.take (k + 1)) ≠ paS lo hi p s t (xs.take k) → p < k - at_ ∧ paT lo hi p s t (xs.take (k + 1)) = 0) ∧ (paS lo hi p s t (xs.take (k + 1)) = paS lo hi p s t (xs.take k) → paT lo hi p s t (xs.take (k + 1)) ≤ k - at_) := by
  obtain ⟨_, e1, e2⟩ := pa_step hk lo hi p s t
  have hb := paT_bd lo hi p (xs.take k) s t h0 h1
  rw [e1, e2]
  generalize paS lo hi p s t (xs.take k) = s' at *
  generalize paT lo hi p s t (xs.take k) = t' at *
  constructor
  · intro h
    have h2 := psS_ne.1 h
    exact ⟨by have := (psM_iff.1 h2).2; omega, (psT_zero hb.1).2 h2⟩
  · intro h
    unfold psT
    cases h3 : psM s' t' lo hi p xs[k]
    · simp; omega
    · exact absurd h (psS_ne.2 h3)
/-- The first move: nothing is asked. -/
theorem pa_first {lo hi p : Int} {xs : List Int} {s : Bool} {t : Int} {k : Nat} (hk : k < xs.length) (h0 : 0 ≤ t) (h1 : t ≤ 20) :
    paS lo hi p s t (xs.take (k + 1)) ≠ paS lo hi p s t (xs.take k) → paT lo hi p s t (xs.take (k + 1)) = 0 := by
  obtain ⟨_, e1, e2⟩ := pa_step hk lo hi p s t
  have hb := paT_bd lo hi p (xs.take k) s t h0 h1
  rw [e1, e2]
  exact fun h => (psT_zero hb.1).2 (psS_ne.1 h)
/-! Rooms. -/
theorem ediv_succ {e k : Int} (hk : 2 ≤ k) : (e + 1) / k ≤ e / k + 1 := by
  have h1 : (e + 1) / k ≤ (e + 1 * k) / k := Int.ediv_le_ediv (by omega) (by omega)
  rwa [Int.add_mul_ediv_right _ _ (by omega)] at h1
theorem tdv_step {d k : Int} (hk : 2 ≤ k) : d.tdiv k - 1 ≤ (d - 1).tdiv k := by
  rcases Int.lt_or_le 0 d with h | h
  · rw [tdv_pos (by omega) (by omega), tdv_pos (by omega) (by omega)]
    have := ediv_succ (e := d - 1) hk; rw [show d - 1 + 1 = d by omega] at this; omega
  · rw [tdv_neg (by omega) (by omega), tdv_neg (by omega) (by omega)]
    have := ediv_succ (e := -d) hk; rw [show -(d - 1) = -d + 1 by omega]; omega
theorem air_up {o k : Int} (hk : 2 ≤ k) (w : Int) : ∀ n : Nat, w + (o - w).tdiv k ≤ (w + n) + (o - (w + n)).tdiv k
  | 0 => by simp
  | n + 1 => by
    have h1 := air_up (o := o) hk w n
    have h2 := tdv_step (d := o - (w + n)) hk
    rw [show o - (w + n) - 1 = o - (w + ((n + 1 : Nat) : Int)) by push_cast; omega] at h2
    push_cast at h2 ⊢
    omega
theorem rsR_mono {w w' o l l' k : Int} (hk : 2 ≤ k) (hw : w ≤ w') (hl : l ≤ l') : rsR w o l k ≤ rsR w' o l' k := by
  have h1 := air_up (o := o) hk w (w' - w).toNat
  rw [show w + ((w' - w).toNat : Int) = w' by omega] at h1
  have h2 : l / 10 ≤ l' / 10 := Int.ediv_le_ediv (by omega) hl
  unfold rsR; omega
theorem rsR_near {w o k : Int} (h : rmB w o k = true) : min w o ≤ rsR w o 0 k ∧ rsR w o 0 k ≤ max w o := by
  rw [rsR_dark h]
  rw [rmB_iff] at h
  rcases Int.le_total 0 (o - w) with hd | hd
  · have := (tdv_near h.2.2.1).1 hd; omega
  · have := (tdv_near h.2.2.1).2 hd; omega
def lvI (p : Int × Bool) : Int := if p.2 = true then 0 else p.1
theorem rrR_mono {o k : Int} (hk : 2 ≤ k) : ∀ (ps qs : List (Int × Bool)) (w w' : Int), ps.length = qs.length → (∀ (i : Nat) (h1 : i < ps.length) (h2 : i < qs.length), lvI ps[i] ≤ lvI qs[i]) → w ≤ w' → rrR o k w ps ≤ rrR o k w' qs
  | [], [], w, w', _, _, h => h
  | [], q :: qs, w, w', h, _, _ => by simp at h
  | p :: ps, [], w, w', h, _, _ => by simp at h
  | p :: ps, q :: qs, w, w', hl, h, hw => by
    have h0 := h 0 (by simp) (by simp)
    exact rrR_mono hk ps qs _ _ (by simpa using hl) (fun i h1 h2 => h (i + 1) (by simpa using h1) (by simpa using h2)) (rsR_mono hk hw h0)
theorem rrR_shut {o k w : Int} (hk : 2 ≤ k) {xs : List Int} {bs : List Bool} (hx : ∀ x ∈ xs, 0 ≤ x ∧ x ≤ 100) (j : Nat) : rrR o k w (xs.zip (bs.set j true)) ≤ rrR o k w (xs.zip bs) := by
  refine rrR_mono hk _ _ _ _ (by simp) (fun i h1 h2 => ?_) (Int.le_refl _)
  rw [List.getElem_zip, List.getElem_zip, List.getElem_set]
  have hi : i < xs.length := by rw [List.length_zip] at h2; omega
  have := hx xs[i] (List.getElem_mem hi)
  unfold lvI
  split
  · simp; split <;> omega
  · exact Int.le_refl _
theorem rrR_split (o k : Int) : ∀ (a b : List (Int × Bool)) (w : Int), rrR o k w (a ++ b) = rrR o k (rrR o k w a) b
  | [], b, w => rfl
  | x :: a, b, w => by simp only [List.cons_append, rrR]; exact rrR_split o k a b _
theorem zip_take {xs : List Int} {bs : List Bool} (k : Nat) : (xs.take k).zip (bs.take k) = (xs.zip bs).take k := by rw [List.zip_eq_zipWith, List.zip_eq_zipWith, List.take_zipWith]
theorem zip_drop {xs : List Int} {bs : List Bool} (k : Nat) : (xs.drop k).zip (bs.drop k) = (xs.zip bs).drop k := by rw [List.zip_eq_zipWith, List.zip_eq_zipWith, List.drop_zipWith]
theorem rrR_half (o k w : Int) (xs : List Int) (bs : List Bool) (j : Nat) : rrR o k (rrR o k w ((xs.take j).zip (bs.take j))) ((xs.drop j).zip (bs.drop j)) = rrR o k w (xs.zip bs) := by
  rw [← rrR_split, zip_take, zip_drop, List.take_append_drop]
theorem rrI_half {w o k : Int} {xs : List Int} {bs : List Bool} (h : rrB w o k xs bs = true) (j : Nat) : rrI (rrI w o k (xs.take j) (bs.take j)) o k (xs.drop j) (bs.drop j) = rrI w o k xs bs := by
  obtain ⟨h1, h2, h3⟩ := rrB_iff.1 h
  have ha : rrB w o k (xs.take j) (bs.take j) = true := rrB_iff.2 ⟨h1, ltB_take h2 j, by simp [h3]⟩
  have hx := (ltB_iff.1 h2).2
  have hb : rmB (rrR o k w ((xs.take j).zip (bs.take j))) o k = true := rrR_ok o k _ w h1 (fun x hx' => hx x.1 (List.mem_of_mem_take (List.of_mem_zip (a := x.1) (b := x.2) hx').1))
  rw [rrI_yes ha, rrI_yes (rrB_iff.2 ⟨hb, ltB_drop h2 j, by simp [h3]⟩), rrI_yes h, rrR_half]
theorem rrI_shut {w o k : Int} {xs : List Int} {bs : List Bool} (h : rrB w o k xs bs = true) (j : Nat) : 0 ≤ rrI w o k xs (bs.set j true) ∧ rrI w o k xs (bs.set j true) ≤ rrI w o k xs bs := by
  obtain ⟨h1, h2, h3⟩ := rrB_iff.1 h
  have ha : rrB w o k xs (bs.set j true) = true := rrB_iff.2 ⟨h1, h2, by simp [h3]⟩
  rw [rrI_yes ha, rrI_yes h]
  have hx := (ltB_iff.1 h2).2
  have h4 := rrR_ok o k (xs.zip (bs.set j true)) w h1 (fun x hx' => hx x.1 (List.of_mem_zip (a := x.1) (b := x.2) hx').1)
  exact ⟨(rmB_iff.1 h4).1.1, rrR_shut (rmB_iff.1 h1).2.2.1 hx j⟩
theorem rrI_nn {w o k : Int} {xs : List Int} {bs : List Bool} (h : rrB w o k xs bs = true) : 0 ≤ rrI w o k xs bs := by
  obtain ⟨h1, h2, h3⟩ := rrB_iff.1 h
  rw [rrI_yes h]
  have hx := (ltB_iff.1 h2).2
  exact (rmB_iff.1 (rrR_ok o k (xs.zip bs) w h1 (fun x hx' => hx x.1 (List.of_mem_zip (a := x.1) (b := x.2) hx').1))).1.1
theorem rtD_zero {w o k : Int} (h : rmB w o k = true) (h0 : rtD w o k ≤ 0) : rsR w o 0 k = w := by
  rcases Decidable.em (rsR w o 0 k = w) with e | e
  · exact e
  · have h1 := rtD_next h e
    have h2 := rtD_bd (rsR_ok h (l := 0) (by omega) (by omega)); omega
theorem rtD_pos {w o k : Int} (h : rmB w o k = true) (h0 : 0 < rtD w o k) : rsR w o 0 k ≠ w ∧ rtD (rsR w o 0 k) o k = rtD w o k - 1 := by
  have hne : rsR w o 0 k ≠ w := by intro e; rw [rtD_rest e] at h0; omega
  exact ⟨hne, by have := rtD_next h hne; omega⟩
theorem rest_near {w o k : Int} (h : rmB w o k = true) (h0 : rsR w o 0 k = w) : w - o < k ∧ o - w < k := by
  rw [rsR_dark h] at h0
  have := (tdv_zero (d := o - w) (rmB_iff.1 h).2.2.1).1 (by omega)
  omega
end Go.Proofs.Ytpmbjdfecbmgoaa
