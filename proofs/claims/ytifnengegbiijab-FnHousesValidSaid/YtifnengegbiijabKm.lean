/- Houses and outlines: plain mathematics of chapter 6. -/
namespace Go.Proofs.Ytifnengegbiijab
set_option linter.unusedVariables false
set_option linter.unusedSimpArgs false

theorem alK_no {α : Type} {p : α → Bool} {xs : List α} {k : Nat} (hk : k < xs.length) (h : p xs[k] = false) : xs.all p = false := by
  rw [List.all_eq_false]; exact ⟨xs[k], List.getElem_mem hk, by simp [h]⟩
theorem alK_yes {α : Type} {p : α → Bool} {xs : List α} {k n : Nat} (hn : xs.length = n) (hk : n ≤ k) (h : (xs.take k).all p = true) : xs.all p = true := by
  rwa [List.take_of_length_le (by omega)] at h
theorem alK_step {α : Type} {p : α → Bool} {xs : List α} {k : Nat} (hk : k < xs.length) (ha : (xs.take k).all p = true) (h : p xs[k] = true) : (xs.take (k + 1)).all p = true := by
  rw [List.take_succ_eq_append_getElem hk, List.all_append, ha]; simp [h]
def hvB (f t h : Int) : Bool := decide (0 ≤ f ∧ f < t ∧ t ≤ 40 ∧ 1 ≤ h ∧ h ≤ 20)
theorem hvB_iff {f t h : Int} : hvB f t h = true ↔ 0 ≤ f ∧ f < t ∧ t ≤ 40 ∧ 1 ≤ h ∧ h ≤ 20 := by unfold hvB; simp
def hvV (v : Int × Int × Int) : Bool := hvB v.1 v.2.1 v.2.2
def hsB (xs : List (Int × Int × Int)) : Bool := decide (xs.length ≤ 6) && xs.all hvV
/-- What a house adds to the height over a place. -/
def upH (p : Int) (m : Int) (v : Int × Int × Int) : Int := if v.1 ≤ p ∧ p < v.2.1 then max m v.2.2 else m
theorem upH_in1 {p q f t u : Int} (h1 : f ≤ p) (h2 : p < t) (h3 : q < u) : upH p q (f, t, u) = u := by unfold upH; rw [if_pos ⟨h1, h2⟩]; simp only; omega
theorem upH_in2 {p q f t u : Int} (h1 : f ≤ p) (h2 : p < t) (h3 : ¬ q < u) : upH p q (f, t, u) = q := by unfold upH; rw [if_pos ⟨h1, h2⟩]; simp only; omega
theorem upH_out {p q f t u : Int} (h : ¬ (f ≤ p ∧ p < t)) : upH p q (f, t, u) = q := by unfold upH; rw [if_neg h]
def atH (xs : List (Int × Int × Int)) (p : Int) : Int := xs.foldl (upH p) 0
def haI (xs : List (Int × Int × Int)) (p : Int) : Int := if hsB xs = true then atH xs p else 0
theorem atH_nil (p : Int) : atH [] p = 0 := rfl
theorem atH_snoc (xs : List (Int × Int × Int)) (v : Int × Int × Int) (p : Int) : atH (xs ++ [v]) p = upH p (atH xs p) v := by simp [atH, List.foldl_append]
theorem foldH_max (p : Int) : ∀ (xs : List (Int × Int × Int)) (m : Int), 0 ≤ m → xs.foldl (upH p) m = max m (xs.foldl (upH p) 0)
  | [], m, h => by simp; omega
  | v :: xs, m, h => by
    simp only [List.foldl_cons]
    by_cases c : v.1 ≤ p ∧ p < v.2.1
    · have e1 : upH p m v = max m v.2.2 := by unfold upH; rw [if_pos c]
      have e2 : upH p 0 v = max 0 v.2.2 := by unfold upH; rw [if_pos c]
      rw [e1, e2, foldH_max p xs (max m v.2.2) (by omega), foldH_max p xs (max 0 v.2.2) (by omega)]
      omega
    · have e1 : upH p m v = m := by unfold upH; rw [if_neg c]
      have e2 : upH p 0 v = 0 := by unfold upH; rw [if_neg c]
      rw [e1, e2]; exact foldH_max p xs m h
theorem atH_nonneg (xs : List (Int × Int × Int)) (p : Int) : 0 ≤ atH xs p := by
  unfold atH
  have : ∀ (xs : List (Int × Int × Int)) (m : Int), 0 ≤ m → 0 ≤ xs.foldl (upH p) m := by
    intro xs
    induction xs with
    | nil => intro m h; exact h
    | cons v xs ih => intro m h; simp only [List.foldl_cons]; apply ih; unfold upH; split <;> omega
  exact this xs 0 (by omega)
theorem atH_cons (v : Int × Int × Int) (xs : List (Int × Int × Int)) (p : Int) : atH (v :: xs) p = max (upH p 0 v) (atH xs p) := by
  unfold atH; simp only [List.foldl_cons]
  exact foldH_max p xs _ (by unfold upH; split <;> omega)
theorem atH_app (xs ys : List (Int × Int × Int)) (p : Int) : atH (xs ++ ys) p = max (atH xs p) (atH ys p) := by
  induction xs with
  | nil => have := atH_nonneg ys p; simp only [List.nil_append, atH_nil]; omega
  | cons v xs ih => simp only [List.cons_append, atH_cons, ih]; omega
theorem atH_rev (xs : List (Int × Int × Int)) (p : Int) : atH xs.reverse p = atH xs p := by
  induction xs with
  | nil => rfl
  | cons v xs ih => rw [List.reverse_cons, atH_app, ih, atH_cons, atH_cons, atH_nil]; have := atH_nonneg xs p; omega
theorem hsB_iff {xs : List (Int × Int × Int)} : hsB xs = true ↔ xs.length ≤ 6 ∧ ∀ v ∈ xs, hvV v = true := by unfold hsB; simp
theorem hsB_tail {v : Int × Int × Int} {xs : List (Int × Int × Int)} (h : hsB (v :: xs) = true) : hvV v = true ∧ hsB xs = true := by
  rw [hsB_iff] at *; simp at h; exact ⟨h.2.1, by omega, fun u hu => h.2.2 _ _ _ hu⟩
theorem hsB_rev {xs : List (Int × Int × Int)} : hsB xs.reverse = hsB xs := by
  rw [Bool.eq_iff_iff, hsB_iff, hsB_iff]; simp
theorem hsB_sub {xs ys : List (Int × Int × Int)} (h : hsB xs = true) (hl : ys.length ≤ xs.length) (hs : ∀ v ∈ ys, v ∈ xs) : hsB ys = true := by
  rw [hsB_iff] at *; exact ⟨by omega, fun v hv => h.2 v (hs v hv)⟩
theorem hsB_drop {xs : List (Int × Int × Int)} (k : Nat) (h : hsB xs = true) : hsB (xs.drop k) = true := hsB_sub h (by simp) (fun v hv => List.mem_of_mem_drop hv)
theorem hsB_take {xs : List (Int × Int × Int)} (k : Nat) (h : hsB xs = true) : hsB (xs.take k) = true := hsB_sub h (by simp; omega) (fun v hv => List.mem_of_mem_take hv)
theorem atH_hi {xs : List (Int × Int × Int)} (h : ∀ v ∈ xs, hvV v = true) (p : Int) : atH xs p ≤ 20 := by
  induction xs with
  | nil => simp [atH_nil]
  | cons v xs ih =>
    have hv := h v (by simp)
    unfold hvV at hv; rw [hvB_iff] at hv
    have := ih (fun u hu => h u (by simp [hu]))
    rw [atH_cons]; unfold upH; split <;> omega
theorem atH_out {xs : List (Int × Int × Int)} (h : ∀ v ∈ xs, hvV v = true) {p : Int} (hp : p < 0 ∨ 40 ≤ p) : atH xs p = 0 := by
  induction xs with
  | nil => rfl
  | cons v xs ih =>
    have hv := h v (by simp)
    unfold hvV at hv; rw [hvB_iff] at hv
    rw [atH_cons, ih (fun u hu => h u (by simp [hu]))]; unfold upH; rw [if_neg (by omega)]; rfl
theorem haI_rng (xs : List (Int × Int × Int)) (p : Int) : 0 ≤ haI xs p ∧ haI xs p ≤ 20 := by
  unfold haI; split
  · rename_i h; rw [hsB_iff] at h; exact ⟨atH_nonneg xs p, atH_hi h.2 p⟩
  · omega
theorem haI_out (xs : List (Int × Int × Int)) {p : Int} (hp : p < 0 ∨ 40 ≤ p) : haI xs p = 0 := by
  unfold haI; split
  · rename_i h; rw [hsB_iff] at h; exact atH_out h.2 hp
  · rfl
-- P117: no house that stands there is higher, one is as high
theorem atH_ge {xs : List (Int × Int × Int)} {v : Int × Int × Int} (hv : v ∈ xs) {p : Int} (h : v.1 ≤ p ∧ p < v.2.1) : v.2.2 ≤ atH xs p := by
  induction xs with
  | nil => simp at hv
  | cons u xs ih =>
    rw [atH_cons]
    rcases List.mem_cons.1 hv with rfl | hv
    · unfold upH; rw [if_pos h]; omega
    · have := ih hv; omega
/-- A house of the first k ones is as high as t over p. -/
def someH (xs : List (Int × Int × Int)) (p t : Int) : Bool := xs.any fun v => decide (v.1 ≤ p ∧ p < v.2.1) && decide (v.2.2 = t)
theorem someH_at {xs : List (Int × Int × Int)} (h : ∀ v ∈ xs, hvV v = true) {p : Int} (h0 : atH xs p ≠ 0) : someH xs p (atH xs p) = true := by
  induction xs with
  | nil => exact absurd rfl h0
  | cons v xs ih =>
    have hv := h v (by simp)
    unfold hvV at hv; rw [hvB_iff] at hv
    have i := ih (fun u hu => h u (by simp [hu]))
    have n := atH_nonneg xs p
    unfold someH at i ⊢
    rw [atH_cons] at h0 ⊢
    rw [List.any_cons]
    by_cases c : v.1 ≤ p ∧ p < v.2.1
    · have e : upH p 0 v = v.2.2 := by unfold upH; rw [if_pos c]; omega
      rw [e] at h0 ⊢
      by_cases d : atH xs p ≤ v.2.2
      · have : max v.2.2 (atH xs p) = v.2.2 := by omega
        rw [this]; simp [c]
      · have e2 : max v.2.2 (atH xs p) = atH xs p := by omega
        rw [e2, i (by omega)]; simp
    · have e : upH p 0 v = 0 := by unfold upH; rw [if_neg c]
      rw [e] at h0 ⊢
      have e2 : max 0 (atH xs p) = atH xs p := by omega
      rw [e2, i (by omega)]; simp

-- outlines
def edB (b0 b1 a t : Int) : Bool := decide (b0 < a ∧ a ≤ 40 ∧ 0 ≤ t ∧ t ≤ 20 ∧ t ≠ b1)
def olGo (b0 b1 : Int) : List (Int × Int) → Bool
  | [] => decide (b1 = 0)
  | e :: r => edB b0 b1 e.1 e.2 && olGo e.1 e.2 r
def olB (xs : List (Int × Int)) : Bool := olGo (-1) 0 xs
/-- The last edge of the first ones, (-1, 0) if there is none; and whether all are right so far. -/
def lastE (xs : List (Int × Int)) : Int × Int := xs.getLastD (-1, 0)
def okE (b0 b1 : Int) : List (Int × Int) → Bool
  | [] => true
  | e :: r => edB b0 b1 e.1 e.2 && okE e.1 e.2 r
theorem olGo_ok (b0 b1 : Int) (xs : List (Int × Int)) : olGo b0 b1 xs = (okE b0 b1 xs && decide ((xs.getLastD (b0, b1)).2 = 0)) := by
  induction xs generalizing b0 b1 with
  | nil => rfl
  | cons e r ih =>
    rw [olGo, okE, ih e.1 e.2]
    have : (e :: r).getLastD (b0, b1) = r.getLastD (e.1, e.2) := by cases r <;> simp [List.getLastD]
    rw [this, Bool.and_assoc]
theorem okE_snoc (b0 b1 : Int) (xs : List (Int × Int)) (e : Int × Int) : okE b0 b1 (xs ++ [e]) = (okE b0 b1 xs && edB (xs.getLastD (b0, b1)).1 (xs.getLastD (b0, b1)).2 e.1 e.2) := by
  induction xs generalizing b0 b1 with
  | nil => simp [okE, List.getLastD]
  | cons x r ih =>
    rw [List.cons_append, okE, okE, ih x.1 x.2]
    have : (x :: r).getLastD (b0, b1) = r.getLastD (x.1, x.2) := by cases r <;> simp [List.getLastD]
    rw [this, Bool.and_assoc]
theorem okE_app (b0 b1 : Int) (xs ys : List (Int × Int)) (h : okE b0 b1 xs = false) : okE b0 b1 (xs ++ ys) = false := by
  induction xs generalizing b0 b1 with
  | nil => simp [okE] at h
  | cons x r ih =>
    rw [List.cons_append, okE]
    rw [okE, Bool.and_eq_false_iff] at h
    rcases h with h | h
    · rw [h]; rfl
    · rw [ih _ _ h]; simp
theorem last_snoc (xs : List (Int × Int)) (e : Int × Int) : lastE (xs ++ [e]) = e := by unfold lastE; simp
theorem last_take {xs : List (Int × Int)} {k : Nat} (hk : k < xs.length) : lastE (xs.take (k + 1)) = xs[k] := by
  rw [List.take_succ_eq_append_getElem hk]; exact last_snoc _ _
theorem ok_step {xs : List (Int × Int)} {k : Nat} (hk : k < xs.length) : okE (-1) 0 (xs.take (k + 1)) = (okE (-1) 0 (xs.take k) && edB (lastE (xs.take k)).1 (lastE (xs.take k)).2 xs[k].1 xs[k].2) := by
  rw [List.take_succ_eq_append_getElem hk, okE_snoc]; rfl
theorem ol_no {xs : List (Int × Int)} {k : Nat} (hk : k < xs.length) (ha : okE (-1) 0 (xs.take k) = true) (h : edB (lastE (xs.take k)).1 (lastE (xs.take k)).2 xs[k].1 xs[k].2 = false) : olB xs = false := by
  have h1 : okE (-1) 0 (xs.take (k + 1)) = false := by rw [ok_step hk, ha, h]; rfl
  unfold olB; rw [olGo_ok]
  have h2 := okE_app (-1) 0 (xs.take (k + 1)) (xs.drop (k + 1)) h1
  rw [List.take_append_drop] at h2
  rw [h2]; rfl
theorem ol_end {xs : List (Int × Int)} {k n : Nat} (hn : xs.length = n) (hk : n ≤ k) (h : okE (-1) 0 (xs.take k) = true) : olB xs = decide ((lastE (xs.take k)).2 = 0) := by
  rw [List.take_of_length_le (by omega)] at h ⊢
  unfold olB; rw [olGo_ok, h]; rfl
/-- The height over a place: that of the last edge whose place is not greater. -/
def upE (p : Int) (t : Int) (e : Int × Int) : Int := if e.1 ≤ p then e.2 else t
theorem upE_in {p q f t : Int} (h : f ≤ p) : upE p q (f, t) = t := by unfold upE; rw [if_pos h]
theorem upE_out {p q f t : Int} (h : ¬ f ≤ p) : upE p q (f, t) = q := by unfold upE; rw [if_neg h]
def atO (xs : List (Int × Int)) (p : Int) : Int := xs.foldl (upE p) 0
def oaI (xs : List (Int × Int)) (p : Int) : Int := if olB xs = true then atO xs p else 0
theorem atO_nil (p : Int) : atO [] p = 0 := rfl
theorem atO_snoc (xs : List (Int × Int)) (e : Int × Int) (p : Int) : atO (xs ++ [e]) p = upE p (atO xs p) e := by simp [atO, List.foldl_append]
theorem okE_rng {b0 b1 : Int} {xs : List (Int × Int)} (h : okE b0 b1 xs = true) : ∀ e ∈ xs, b0 < e.1 ∧ e.1 ≤ 40 ∧ 0 ≤ e.2 ∧ e.2 ≤ 20 := by
  induction xs generalizing b0 b1 with
  | nil => simp
  | cons x r ih =>
    rw [okE, Bool.and_eq_true] at h
    have hx := h.1
    unfold edB at hx; simp only [decide_eq_true_eq] at hx
    intro e he
    rcases List.mem_cons.1 he with rfl | he
    · omega
    · have := ih h.2 e he; omega
theorem ol_okE {xs : List (Int × Int)} (h : olB xs = true) : okE (-1) 0 xs = true ∧ (lastE xs).2 = 0 := by
  unfold olB at h; rw [olGo_ok, Bool.and_eq_true] at h; exact ⟨h.1, by simpa [lastE] using h.2⟩
theorem ol_mk {xs : List (Int × Int)} (h : okE (-1) 0 xs = true) (h0 : (lastE xs).2 = 0) : olB xs = true := by
  unfold olB; rw [olGo_ok, h]; simpa [lastE] using h0
theorem ol_rng {xs : List (Int × Int)} (h : olB xs = true) : ∀ e ∈ xs, 0 ≤ e.1 ∧ e.1 ≤ 40 ∧ 0 ≤ e.2 ∧ e.2 ≤ 20 := by
  intro e he; have := okE_rng (ol_okE h).1 e he; omega
theorem fold_rng {p : Int} : ∀ {xs : List (Int × Int)} {t : Int}, (∀ e ∈ xs, 0 ≤ e.2 ∧ e.2 ≤ 20) → 0 ≤ t ∧ t ≤ 20 → 0 ≤ xs.foldl (upE p) t ∧ xs.foldl (upE p) t ≤ 20
  | [], t, _, h => h
  | e :: r, t, hx, h => by
    simp only [List.foldl_cons]
    have he := hx e (by simp)
    exact fold_rng (fun u hu => hx u (by simp [hu])) (by unfold upE; split <;> omega)
theorem oaI_rng (xs : List (Int × Int)) (p : Int) : 0 ≤ oaI xs p ∧ oaI xs p ≤ 20 := by
  unfold oaI; split
  · rename_i h; exact fold_rng (fun e he => (ol_rng h e he).2.2) (by omega)
  · omega
theorem fold_low {p : Int} : ∀ {xs : List (Int × Int)} {t : Int}, (∀ e ∈ xs, p < e.1) → xs.foldl (upE p) t = t
  | [], t, _ => rfl
  | e :: r, t, h => by
    simp only [List.foldl_cons]
    have he := h e (by simp)
    have : upE p t e = t := by unfold upE; rw [if_neg (by omega)]
    rw [this]; exact fold_low (fun u hu => h u (by simp [hu]))
theorem fold_high {p : Int} : ∀ {xs : List (Int × Int)} {q t : Int}, (∀ e ∈ xs, e.1 ≤ p) → xs.foldl (upE p) t = (xs.getLastD (q, t)).2
  | [], q, t, _ => rfl
  | e :: r, q, t, h => by
    simp only [List.foldl_cons]
    have he := h e (by simp)
    have : upE p t e = e.2 := by unfold upE; rw [if_pos he]
    rw [this, fold_high (q := e.1) (fun u hu => h u (by simp [hu]))]
    cases r <;> simp [List.getLastD]
theorem oaI_low (xs : List (Int × Int)) {p : Int} (hp : p < 0) : oaI xs p = 0 := by
  unfold oaI; split
  · rename_i h; exact fold_low (fun e he => by have := ol_rng h e he; omega)
  · rfl
theorem oaI_high (xs : List (Int × Int)) {p : Int} (hp : 40 ≤ p) : oaI xs p = 0 := by
  unfold oaI; split
  · rename_i h
    have h2 := (ol_okE h).2
    unfold atO; rw [fold_high (q := -1) (fun e he => by have := ol_rng h e he; omega)]; exact h2
  · rfl
-- the outline with a height over each place
def bfI (f : Nat → Int) (n : Nat) : Int := if n = 0 then 0 else f (n - 1)
theorem bfI_succ (f : Nat → Int) (n : Nat) : bfI f (n + 1) = f n := rfl
def owL (f : Nat → Int) : Nat → List (Int × Int)
  | 0 => []
  | n + 1 => if f n = bfI f n then owL f n else owL f n ++ [((n : Int), f n)]
theorem owL_len (f : Nat → Int) (n : Nat) : (owL f n).length ≤ n := by
  induction n with
  | zero => simp [owL]
  | succ n ih =>
    rw [owL]; split
    · omega
    · simp; omega
theorem owL_keep {f : Nat → Int} {n : Nat} (h : f n = bfI f n) : owL f (n + 1) = owL f n := by rw [owL, if_pos h]
theorem owL_add {f : Nat → Int} {n : Nat} (h : ¬ f n = bfI f n) : owL f (n + 1) = owL f n ++ [((n : Int), f n)] := by rw [owL, if_neg h]
theorem owL_ext {f g : Nat → Int} : ∀ {n : Nat}, (∀ k, k < n → f k = g k) → owL f n = owL g n
  | 0, _ => rfl
  | n + 1, h => by
    have e1 := h n (by omega)
    have e2 : bfI f n = bfI g n := by unfold bfI; split; rfl; exact h _ (by omega)
    rw [owL, owL, e1, e2, owL_ext (fun k hk => h k (by omega))]
theorem owL_at (f : Nat → Int) : ∀ n : Nat, ∀ e ∈ owL f n, 0 ≤ e.1 ∧ e.1 < n
  | 0 => by simp [owL]
  | n + 1 => by
    intro e he
    rw [owL] at he; split at he
    · have := owL_at f n e he; omega
    · rcases List.mem_append.1 he with he | he
      · have := owL_at f n e he; omega
      · simp at he; rw [he]; omega
theorem owL_last (f : Nat → Int) : ∀ n : Nat, (lastE (owL f n)).2 = bfI f n ∧ (lastE (owL f n)).1 < n
  | 0 => by simp [owL, lastE, bfI]
  | n + 1 => by
    rw [owL, bfI_succ]; split
    · rename_i h; have := owL_last f n; rw [h]; exact ⟨this.1, by omega⟩
    · rw [last_snoc]; simp; omega
theorem owL_ok {f : Nat → Int} (hf : ∀ k, 0 ≤ f k ∧ f k ≤ 20) : ∀ n : Nat, n ≤ 41 → okE (-1) 0 (owL f n) = true
  | 0, _ => rfl
  | n + 1, h => by
    have i := owL_ok hf n (by omega)
    rw [owL]; split
    · exact i
    · rename_i hne
      rw [okE_snoc, i, Bool.true_and]
      have l := owL_last f n
      unfold lastE at l
      have := hf n
      unfold edB; simp only [decide_eq_true_eq]
      refine ⟨by omega, by omega, by omega, by omega, by rw [l.1]; exact hne⟩
theorem owL_valid {f : Nat → Int} (hf : ∀ k, 0 ≤ f k ∧ f k ≤ 20) (h40 : f 40 = 0) : olB (owL f 41) = true := by
  refine ol_mk (owL_ok hf 41 (by omega)) ?_
  rw [(owL_last f 41).1]; exact h40
theorem owL_fold (f : Nat → Int) (p : Nat) : ∀ n : Nat, atO (owL f n) p = if p < n then f p else bfI f n
  | 0 => by simp [owL, atO_nil, bfI]
  | n + 1 => by
    have i := owL_fold f p n
    rw [owL, bfI_succ]; split
    · rename_i h
      rw [i]
      by_cases c : p < n
      · rw [if_pos c, if_pos (by omega)]
      · rw [if_neg c]; by_cases d : p = n
        · rw [if_pos (by omega), d, h]
        · rw [if_neg (by omega), h]
    · rename_i h
      rw [atO_snoc, i]; unfold upE
      by_cases c : p < n
      · rw [if_neg (by simp; omega), if_pos c, if_pos (by omega)]
      · rw [if_pos (by simp; omega)]; by_cases d : p = n
        · rw [if_pos (by omega), d]
        · rw [if_neg (by omega)]
theorem owL_oa {f : Nat → Int} (hf : ∀ k, 0 ≤ f k ∧ f k ≤ 20) (h40 : f 40 = 0) {p : Nat} (hp : p ≤ 40) : oaI (owL f 41) p = f p := by
  unfold oaI; rw [if_pos (owL_valid hf h40), owL_fold, if_pos (by omega)]
-- a valid outline is that of its own heights
theorem okE_inc {b0 b1 : Int} {xs : List (Int × Int)} (h : okE b0 b1 xs = true) : xs.Pairwise (fun a b => a.1 < b.1) := by
  induction xs generalizing b0 b1 with
  | nil => exact List.Pairwise.nil
  | cons x r ih =>
    rw [okE, Bool.and_eq_true] at h
    exact List.Pairwise.cons (fun e he => (okE_rng h.2 e he).1) (ih h.2)
theorem filt_snoc {xs : List (Int × Int)} (h : xs.Pairwise (fun a b => a.1 < b.1)) (n : Int) : (xs.filter fun e => decide (e.1 < n + 1)) = (xs.filter fun e => decide (e.1 < n)) ++ (xs.filter fun e => decide (e.1 = n)) := by
  induction xs with
  | nil => rfl
  | cons x r ih =>
    rw [List.pairwise_cons] at h
    have i := ih h.2
    by_cases c : x.1 < n
    · rw [List.filter_cons_of_pos (by simp; omega), List.filter_cons_of_pos (by simp; omega), List.filter_cons_of_neg (by simp; omega), i]; rfl
    · have n1 : (r.filter fun e => decide (e.1 < n)) = [] := by
        rw [List.filter_eq_nil_iff]; intro e he; have := h.1 e he; simp; omega
      rw [n1, List.nil_append] at i
      by_cases d : x.1 = n
      · rw [List.filter_cons_of_pos (by simp; omega), List.filter_cons_of_neg (by simp; omega), List.filter_cons_of_pos (by simp; omega), n1, i]; rfl
      · rw [List.filter_cons_of_neg (by simp; omega), List.filter_cons_of_neg (by simp; omega), List.filter_cons_of_neg (by simp; omega), n1, i]; rfl
theorem atO_filt (xs : List (Int × Int)) (p : Int) : ∀ t : Int, xs.foldl (upE p) t = ((xs.filter fun e => decide (e.1 < p + 1)).getLastD (p, t)).2 := by
  induction xs with
  | nil => intro t; rfl
  | cons x r ih =>
    intro t
    simp only [List.foldl_cons]
    by_cases c : x.1 ≤ p
    · rw [List.filter_cons_of_pos (by simp; omega), show upE p t x = x.2 from by unfold upE; rw [if_pos c], ih]
      generalize (r.filter fun e => decide (e.1 < p + 1)) = q
      cases q <;> simp [List.getLastD]
    · rw [List.filter_cons_of_neg (by simp; omega), show upE p t x = t from by unfold upE; rw [if_neg c], ih]
theorem last_any (q : List (Int × Int)) (a b : Int) (t : Int) : (q.getLastD (a, t)).2 = (q.getLastD (b, t)).2 := by cases q <;> simp [List.getLastD]
theorem okE_filt {b0 b1 : Int} {xs : List (Int × Int)} (h : okE b0 b1 xs = true) (n : Int) : okE b0 b1 (xs.filter fun e => decide (e.1 < n)) = true := by
  induction xs generalizing b0 b1 with
  | nil => rfl
  | cons x r ih =>
    rw [okE, Bool.and_eq_true] at h
    by_cases c : x.1 < n
    · rw [List.filter_cons_of_pos (by simp; omega), okE, h.1, ih h.2]; rfl
    · have n1 : (r.filter fun e => decide (e.1 < n)) = [] := by
        rw [List.filter_eq_nil_iff]; intro e he; have := (okE_rng h.2 e he).1; simp; omega
      rw [List.filter_cons_of_neg (by simp; omega), n1]; rfl
theorem owL_filt {xs : List (Int × Int)} (h : okE (-1) 0 xs = true) : ∀ n : Nat, owL (fun k => atO xs k) n = xs.filter fun e => decide (e.1 < (n : Int))
  | 0 => by
    symm; rw [owL, List.filter_eq_nil_iff]; intro e he; have := (okE_rng h e he).1; simp; omega
  | n + 1 => by
    have i := owL_filt h n
    have hb : bfI (fun k => atO xs k) n = ((xs.filter fun e => decide (e.1 < (n : Int))).getLastD (-1, 0)).2 := by
      have := (owL_last (fun k => atO xs k) n).1; unfold lastE at this; rw [← i]; exact this.symm
    have hn : atO xs n = ((xs.filter fun e => decide (e.1 < (n : Int) + 1)).getLastD (-1, 0)).2 := by
      unfold atO; rw [atO_filt]; exact last_any _ _ _ _
    rw [filt_snoc (okE_inc h)] at hn
    have hs : (((n + 1 : Nat)) : Int) = (n : Int) + 1 := by omega
    rw [hs, filt_snoc (okE_inc h)]
    -- the edges at n: none or one
    cases hq : xs.filter fun e => decide (e.1 = (n : Int)) with
    | nil =>
      rw [hq, List.append_nil] at hn
      rw [List.append_nil, ← i]
      exact owL_keep (by rw [hb]; exact hn)
    | cons x q =>
      have hx : x ∈ xs.filter fun e => decide (e.1 = (n : Int)) := by rw [hq]; simp
      have hx2 : x ∈ xs ∧ x.1 = n := by simpa using hx
      have hq0 : q = [] := by
        cases q with
        | nil => rfl
        | cons y q =>
          exfalso
          have hp := (okE_inc h).filter (fun e => decide (e.1 = (n : Int)))
          rw [hq, List.pairwise_cons] at hp
          have h1 := hp.1 y (by simp)
          have hy : y ∈ xs.filter fun e => decide (e.1 = (n : Int)) := by rw [hq]; simp
          have hy2 : y ∈ xs ∧ y.1 = n := by simpa using hy
          omega
      subst hq0
      rw [hq] at hn
      have hn2 : atO xs n = x.2 := by rw [hn]; simp
      have hk := okE_filt h ((n : Int) + 1)
      rw [filt_snoc (okE_inc h), hq, okE_snoc, Bool.and_eq_true] at hk
      have he := hk.2
      unfold edB at he; simp only [decide_eq_true_eq] at he
      rw [← i, owL_add (by rw [hb]; show ¬ atO xs n = _; rw [hn2]; exact he.2.2.2.2)]
      congr 1
      simp only [List.cons.injEq, and_true]
      exact Prod.ext hx2.2.symm hn2
theorem owL_self {xs : List (Int × Int)} (h : olB xs = true) : owL (fun k => oaI xs k) 41 = xs := by
  have e : (fun k : Nat => oaI xs k) = fun k : Nat => atO xs k := by funext k; unfold oaI; rw [if_pos h]
  rw [e, owL_filt (ol_okE h).1 41, List.filter_eq_self]
  intro e he; have := ol_rng h e he; simp; omega
-- joins
def ojF (a b : List (Int × Int)) (p : Nat) : Int := max (oaI a p) (oaI b p)
def ojL (a b : List (Int × Int)) : List (Int × Int) := if (olB a && olB b) = true then owL (ojF a b) 41 else []
def ooL (xs : List (Int × Int × Int)) : List (Int × Int) := if hsB xs = true then owL (fun p => haI xs p) 41 else []
theorem ojF_rng (a b : List (Int × Int)) (k : Nat) : 0 ≤ ojF a b k ∧ ojF a b k ≤ 20 := by
  unfold ojF; have := oaI_rng a k; have := oaI_rng b k; omega
theorem ojF_40 (a b : List (Int × Int)) : ojF a b 40 = 0 := by unfold ojF; rw [oaI_high a (by omega), oaI_high b (by omega)]; rfl
theorem ojL_eq {a b : List (Int × Int)} (ha : olB a = true) (hb : olB b = true) : ojL a b = owL (ojF a b) 41 := by unfold ojL; rw [ha, hb]; rfl
theorem ojL_ok {a b : List (Int × Int)} (ha : olB a = true) (hb : olB b = true) : olB (ojL a b) = true := by
  rw [ojL_eq ha hb]; exact owL_valid (ojF_rng a b) (ojF_40 a b)
theorem ojL_oa {a b : List (Int × Int)} (ha : olB a = true) (hb : olB b = true) {k : Nat} (hk : k ≤ 40) : oaI (ojL a b) k = ojF a b k := by
  rw [ojL_eq ha hb]; exact owL_oa (ojF_rng a b) (ojF_40 a b) hk
theorem ojL_comm (a b : List (Int × Int)) : ojL a b = ojL b a := by
  unfold ojL; rw [Bool.and_comm, show ojF a b = ojF b a from by funext k; unfold ojF; omega]
theorem ojL_self {a : List (Int × Int)} (ha : olB a = true) : ojL a a = a := by
  rw [ojL_eq ha ha, show ojF a a = fun k : Nat => oaI a k from by funext k; unfold ojF; omega]; exact owL_self ha
theorem ojL_assoc {a b c : List (Int × Int)} (ha : olB a = true) (hb : olB b = true) (hc : olB c = true) : ojL (ojL a b) c = ojL a (ojL b c) := by
  rw [ojL_eq (ojL_ok ha hb) hc, ojL_eq ha (ojL_ok hb hc)]
  refine owL_ext fun k hk => ?_
  show max (oaI (ojL a b) k) (oaI c k) = max (oaI a k) (oaI (ojL b c) k)
  rw [ojL_oa ha hb (by omega), ojL_oa hb hc (by omega)]; unfold ojF; omega
theorem ooL_ok {xs : List (Int × Int × Int)} (h : hsB xs = true) : olB (ooL xs) = true := by
  unfold ooL; rw [if_pos h]; exact owL_valid (fun k => haI_rng xs k) (haI_out xs (by omega))
theorem ol_nil : olB [] = true := rfl
theorem ooL_ol (xs : List (Int × Int × Int)) : olB (ooL xs) = true := by
  by_cases h : hsB xs = true
  · exact ooL_ok h
  · unfold ooL; rw [if_neg h]; rfl
theorem ooL_oa {xs : List (Int × Int × Int)} (h : hsB xs = true) {k : Nat} (hk : k ≤ 40) : oaI (ooL xs) k = haI xs k := by
  unfold ooL; rw [if_pos h]; exact owL_oa (fun k => haI_rng xs k) (haI_out xs (by omega)) hk
/-- At every place, before the street and on it, the outline is as high as the houses. -/
theorem ooL_all {xs : List (Int × Int × Int)} (h : hsB xs = true) {p : Int} (h0 : -1 ≤ p) (h1 : p ≤ 40) : oaI (ooL xs) p = haI xs p := by
  by_cases c : p < 0
  · rw [oaI_low _ c, haI_out _ (by omega)]
  · have := ooL_oa h (k := p.toNat) (by omega)
    have e : ((p.toNat : Nat) : Int) = p := by omega
    rwa [e] at this
theorem ooL_rev (xs : List (Int × Int × Int)) : ooL xs.reverse = ooL xs := by
  unfold ooL; rw [hsB_rev]
  have : (fun p : Nat => haI xs.reverse p) = fun p : Nat => haI xs p := by funext p; unfold haI; rw [hsB_rev, atH_rev]
  rw [this]
theorem ooL_halves {xs : List (Int × Int × Int)} (h : hsB xs = true) (k : Nat) : ooL xs = ojL (ooL (xs.take k)) (ooL (xs.drop k)) := by
  have ht := hsB_take k h
  have hd := hsB_drop k h
  rw [ojL_eq (ooL_ok ht) (ooL_ok hd)]
  conv => lhs; unfold ooL
  rw [if_pos h]
  refine owL_ext fun p hp => ?_
  show haI xs p = max (oaI (ooL (xs.take k)) p) (oaI (ooL (xs.drop k)) p)
  rw [ooL_oa ht (by omega), ooL_oa hd (by omega)]
  unfold haI; rw [if_pos h, if_pos ht, if_pos hd, ← atH_app, List.take_append_drop]
theorem ojL_nil {a b : List (Int × Int)} (h : olB a = false ∨ olB b = false) : ojL a b = [] := by
  unfold ojL; rw [if_neg]; rcases h with h | h <;> rw [h] <;> simp
-- areas
def areaTo (xs : List (Int × Int)) : Nat → Int
  | 0 => 0
  | n + 1 => areaTo xs n + oaI xs n
theorem areaTo_rng (xs : List (Int × Int)) : ∀ n : Nat, 0 ≤ areaTo xs n ∧ areaTo xs n ≤ 20 * n
  | 0 => by simp [areaTo]
  | n + 1 => by have := areaTo_rng xs n; have := oaI_rng xs n; rw [areaTo]; omega
def arI (xs : List (Int × Int)) : Int := if olB xs = true then areaTo xs 40 else -1
/-- The sum over all edges but the last one, of the first k ones. -/
def edgeSum (xs : List (Int × Int)) : Nat → Int
  | 0 => 0
  | k + 1 => edgeSum xs k + (if h : k + 1 < xs.length then xs[k].2 * (xs[k + 1].1 - xs[k].1) else 0)
def sumTo (f : Nat → Int) : Nat → Int
  | 0 => 0
  | n + 1 => sumTo f n + f n
theorem sumTo_ext {f g : Nat → Int} : ∀ {n : Nat}, (∀ k, k < n → f k = g k) → sumTo f n = sumTo g n
  | 0, _ => rfl
  | n + 1, h => by rw [sumTo, sumTo, sumTo_ext (fun k hk => h k (by omega)), h n (by omega)]
theorem areaTo_sum (xs : List (Int × Int)) : ∀ n : Nat, areaTo xs n = sumTo (fun k => oaI xs k) n
  | 0 => rfl
  | n + 1 => by rw [areaTo, sumTo, areaTo_sum xs n]
/-- The area under some edges up to a place n, told by edges. -/
def ars (xs : List (Int × Int)) (n : Int) : Int :=
  match xs with
  | [] => 0
  | [e] => e.2 * (n - e.1)
  | e :: e' :: r => e.2 * (e'.1 - e.1) + ars (e' :: r) n
theorem ars_snoc (n : Int) (x : Int × Int) : ∀ (xs : List (Int × Int)), xs ≠ [] → ars (xs ++ [x]) n = ars xs x.1 + x.2 * (n - x.1)
  | [], h => absurd rfl h
  | [e], _ => rfl
  | e :: e' :: r, _ => by
    have := ars_snoc n x (e' :: r) (by simp)
    simp only [List.cons_append] at this ⊢
    rw [ars, this, ars]; omega
theorem ars_grow (n : Int) : ∀ (xs : List (Int × Int)), ars xs (n + 1) = ars xs n + (xs.getLastD (0, 0)).2
  | [] => rfl
  | [e] => by simp only [ars, List.getLastD]; rw [show n + 1 - e.1 = (n - e.1) + 1 from by omega, Int.mul_add]; simp
  | e :: e' :: r => by
    have := ars_grow n (e' :: r)
    rw [ars, this, ars]
    have e2 : (e :: e' :: r).getLastD (0, 0) = (e' :: r).getLastD (0, 0) := by simp [List.getLastD]
    rw [e2]; omega
theorem ars_ow (f : Nat → Int) : ∀ n : Nat, ars (owL f n) n = sumTo f n
  | 0 => rfl
  | n + 1 => by
    have i := ars_ow f n
    have l := (owL_last f n).1
    have l2 : ((owL f n).getLastD (0, 0)).2 = bfI f n := by unfold lastE at l; rw [← l]; exact last_any _ _ _ _
    rw [owL, sumTo, ← i]
    have hs : (((n + 1 : Nat)) : Int) = (n : Int) + 1 := by omega
    split
    · rename_i h; rw [hs, ars_grow, l2, h]
    · rename_i h
      by_cases c : owL f n = []
      · rw [c, hs]; simp only [List.nil_append, ars]; rw [show (n : Int) + 1 - (n : Int) = 1 from by omega]; simp
      · rw [ars_snoc _ _ _ c, hs]; simp only; rw [show (n : Int) + 1 - (n : Int) = 1 from by omega]; simp
theorem edgeSum_cons (e e' : Int × Int) (r : List (Int × Int)) : ∀ k : Nat, edgeSum (e :: e' :: r) (k + 1) = e.2 * (e'.1 - e.1) + edgeSum (e' :: r) k
  | 0 => by simp [edgeSum]
  | k + 1 => by
    rw [edgeSum, edgeSum_cons e e' r k, edgeSum]
    simp only [List.length_cons, List.getElem_cons_succ, Nat.add_lt_add_iff_right]
    rw [Int.add_assoc]
theorem edgeSum_ars {n : Int} : ∀ (xs : List (Int × Int)), (xs.getLastD (0, 0)).2 = 0 → edgeSum xs xs.length = ars xs n
  | [], _ => rfl
  | [e], h => by simp [List.getLastD] at h; simp [edgeSum, ars, h]
  | e :: e' :: r, h => by
    have e2 : (e :: e' :: r).getLastD (0, 0) = (e' :: r).getLastD (0, 0) := by simp [List.getLastD]
    rw [List.length_cons, edgeSum_cons, edgeSum_ars (e' :: r) (by rw [← e2]; exact h), ars]
theorem area_edges {xs : List (Int × Int)} (h : olB xs = true) : areaTo xs 40 = edgeSum xs xs.length := by
  have h0 := (ol_okE h).2
  have h1 : (xs.getLastD (0, 0)).2 = 0 := (last_any _ _ _ _).trans h0
  have e1 := ars_ow (fun k => oaI xs k) 41
  rw [owL_self h] at e1
  have e2 : sumTo (fun k => oaI xs k) 41 = sumTo (fun k => oaI xs k) 40 + oaI xs (40 : Nat) := rfl
  rw [oaI_high xs (by omega)] at e2
  rw [areaTo_sum, edgeSum_ars (n := ((41 : Nat) : Int)) xs h1, e1, e2]; omega
end Go.Proofs.Ytifnengegbiijab
