/- Loads that are put into hours one by one, those that end first ahead: plain mathematics of LoadsWith and LoadsLeast. -/
import Derived.Test.YtibpaojhjgpdaaaZo
import Derived.Test.YtibpaojhjgpdaaaSo
namespace Go.Proofs.Ytibpaojhjgpdaaa
set_option linter.unusedVariables false
set_option linter.unusedSimpArgs false
/-- An hour is put at some places. -/
def setL (o : List Int) (h : Int) (is : List Nat) : List Int := is.foldl (fun o i => o.set i h) o
theorem setL_snoc (o : List Int) (h : Int) (is : List Nat) (i : Nat) : setL o h (is ++ [i]) = (setL o h is).set i h := by unfold setL; rw [List.foldl_append]; rfl
theorem setL_len : ∀ (is : List Nat) (o : List Int) (h : Int), (setL o h is).length = o.length
  | [], o, h => rfl
  | i :: is, o, h => by show (setL (o.set i h) h is).length = _; rw [setL_len is]; simp
theorem getD_set (o : List Int) (i j : Nat) (h : Int) (hi : i < o.length) : (o.set i h).getD j 0 = if j = i then h else o.getD j 0 := by
  by_cases e : j = i
  · subst e; simp [hi]
  · rw [if_neg e]; simp [List.getD, List.getElem?_set_ne (Ne.symm e)]
theorem setL_at : ∀ (is : List Nat) (o : List Int) (h : Int) (j : Nat), (∀ i ∈ is, i < o.length) → (setL o h is).getD j 0 = if j ∈ is then h else o.getD j 0
  | [], o, h, j, _ => by simp [setL]
  | i :: is, o, h, j, hb => by
    show (setL (o.set i h) h is).getD j 0 = _
    rw [setL_at is (o.set i h) h j (fun k hk => by simpa using hb k (by simp [hk])), getD_set _ _ _ _ (hb i (by simp))]
    by_cases e : j = i
    · subst e; simp
    · simp [e]
/-- The loads that may have the hour. -/
def okH (xs : List (Int × Int)) (o : List Int) (h : Int) (i : Nat) : Bool := decide (o.getD i 0 = -1) && (decide ((xs.getD i (0, 0)).1 ≤ h) && decide (h ≤ (xs.getD i (0, 0)).2))
def cand (xs : List (Int × Int)) (o : List Int) (h : Int) (l : List Nat) : List Nat := l.filter (okH xs o h)
theorem cand_step (xs : List (Int × Int)) (o : List Int) (h : Int) (l : List Nat) {p : Nat} (hp : p < l.length) : cand xs o h (l.take (p + 1)) = cand xs o h (l.take p) ++ if okH xs o h l[p] = true then [l[p]] else [] := by
  unfold cand; rw [List.take_succ_eq_append_getElem hp, List.filter_append]
  congr 1
  by_cases e : okH xs o h l[p] = true <;> simp [e]
theorem cand_sub {xs : List (Int × Int)} {o : List Int} {h : Int} {l : List Nat} {i : Nat} (hi : i ∈ cand xs o h l) : i ∈ l ∧ okH xs o h i = true := by unfold cand at hi; simpa using hi
def hstep (xs : List (Int × Int)) (l : List Nat) (m : Nat) (o : List Int) (h : Int) : List Int := setL o h ((cand xs o h l).take m)
def hrun (xs : List (Int × Int)) (l : List Nat) (m : Nat) : Nat → List Int
  | 0 => List.replicate xs.length (-1)
  | h + 1 => hstep xs l m (hrun xs l m h) h
theorem okH_iff {xs : List (Int × Int)} {o : List Int} {h : Int} {i : Nat} : okH xs o h i = true ↔ o.getD i 0 = -1 ∧ (xs.getD i (0, 0)).1 ≤ h ∧ h ≤ (xs.getD i (0, 0)).2 := by
  unfold okH; simp only [Bool.and_eq_true, decide_eq_true_eq]
theorem hrun_len (xs : List (Int × Int)) (l : List Nat) (m : Nat) : ∀ h, (hrun xs l m h).length = xs.length
  | 0 => by simp [hrun]
  | h + 1 => by simp only [hrun, hstep]; rw [setL_len, hrun_len xs l m h]
/-- The order is one of all loads by their ends. -/
abbrev ends (xs : List (Int × Int)) : List Int := xs.map (·.2)
theorem ky_ends (xs : List (Int × Int)) (i : Nat) : ky (ends xs) i = (xs.getD i (0, 0)).2 := by
  unfold ky ends
  by_cases h : i < xs.length
  · simp [h]
  · simp [List.getElem?_eq_none (Nat.le_of_not_lt h)]
def OrdE (xs : List (Int × Int)) (l : List Nat) : Prop := IsOrd xs.length (PreK (ends xs)) l
theorem OrdE.nodup {xs : List (Int × Int)} {l : List Nat} (h : OrdE xs l) : l.Nodup := IsOrd.nodup (preK_tot _ _) h
theorem OrdE.mem {xs : List (Int × Int)} {l : List Nat} (h : OrdE xs l) {i : Nat} : i ∈ l ↔ i < xs.length := h.2 i
theorem OrdE.len {xs : List (Int × Int)} {l : List Nat} (h : OrdE xs l) : l.length = xs.length := IsOrd.length (preK_tot _ _) h
theorem cand_lt {xs : List (Int × Int)} {o : List Int} {h : Int} {l : List Nat} (hl : OrdE xs l) (hn : o.length = xs.length) (m : Nat) : ∀ i ∈ (cand xs o h l).take m, i < o.length := fun i hi => by
  rw [hn]; exact hl.mem.1 (cand_sub (List.mem_of_mem_take hi)).1
theorem hstep_at {xs : List (Int × Int)} {o : List Int} {h : Int} {l : List Nat} (hl : OrdE xs l) (hn : o.length = xs.length) (m j : Nat) : (hstep xs l m o h).getD j 0 = if j ∈ (cand xs o h l).take m then h else o.getD j 0 :=
  setL_at _ _ _ _ (cand_lt hl hn m)
theorem hrun_at {xs : List (Int × Int)} {l : List Nat} (hl : OrdE xs l) (m h j : Nat) : (hrun xs l m (h + 1)).getD j 0 = if j ∈ (cand xs (hrun xs l m h) h l).take m then (h : Int) else (hrun xs l m h).getD j 0 :=
  hstep_at hl (hrun_len _ _ _ _) m j
/-- Each load has no hour yet, or one of its own. -/
theorem hrun_own {xs : List (Int × Int)} {l : List Nat} (hl : OrdE xs l) (m : Nat) : ∀ (h j : Nat), j < xs.length → (hrun xs l m h).getD j 0 = -1 ∨ ∃ t : Nat, t < h ∧ (hrun xs l m h).getD j 0 = t ∧ (xs.getD j (0, 0)).1 ≤ t ∧ (t : Int) ≤ (xs.getD j (0, 0)).2
  | 0, j, hj => by left; simp [hrun, hj]
  | h + 1, j, hj => by
    rw [hrun_at hl]
    by_cases e : j ∈ (cand xs (hrun xs l m h) h l).take m
    · rw [if_pos e]
      have := okH_iff.1 (cand_sub (List.mem_of_mem_take e)).2
      exact .inr ⟨h, by omega, rfl, this.2.1, this.2.2⟩
    · rw [if_neg e]
      rcases hrun_own hl m h j hj with k | ⟨t, t1, t2⟩
      · exact .inl k
      · exact .inr ⟨t, by omega, t2⟩
theorem hrun_keep1 {xs : List (Int × Int)} {l : List Nat} (hl : OrdE xs l) (m h j : Nat) (hh : (hrun xs l m h).getD j 0 ≠ -1) : (hrun xs l m (h + 1)).getD j 0 = (hrun xs l m h).getD j 0 := by
  rw [hrun_at hl]
  by_cases e : j ∈ (cand xs (hrun xs l m h) h l).take m
  · exact absurd (okH_iff.1 (cand_sub (List.mem_of_mem_take e)).2).1 hh
  · rw [if_neg e]
theorem hrun_keep {xs : List (Int × Int)} {l : List Nat} (hl : OrdE xs l) (m h j : Nat) (hh : (hrun xs l m h).getD j 0 ≠ -1) : ∀ d, (hrun xs l m (h + d)).getD j 0 = (hrun xs l m h).getD j 0
  | 0 => rfl
  | d + 1 => by
    have ih := hrun_keep hl m h j hh d
    have := hrun_keep1 hl m (h + d) j (by rw [ih]; exact hh)
    rw [← ih, ← this]; rfl
theorem hrun_free {xs : List (Int × Int)} {l : List Nat} (hl : OrdE xs l) (m : Nat) {h g j : Nat} (hg : h ≤ g) (hh : (hrun xs l m g).getD j 0 = -1) : (hrun xs l m h).getD j 0 = -1 := by
  apply Classical.byContradiction
  intro hn
  have := hrun_keep hl m h j hn (g - h)
  rw [show h + (g - h) = g by omega, hh] at this
  exact hn this.symm
/-- A load that is late has no hour at last. -/
theorem hrun_late {xs : List (Int × Int)} {l : List Nat} (hl : OrdE xs l) (m : Nat) {h j : Nat} (hh : (hrun xs l m h).getD j 0 = -1) (hj : (xs.getD j (0, 0)).2 < h) : ∀ d, (hrun xs l m (h + d)).getD j 0 = -1
  | 0 => hh
  | d + 1 => by
    show (hrun xs l m ((h + d) + 1)).getD j 0 = -1
    rw [hrun_at hl]
    by_cases e : j ∈ (cand xs (hrun xs l m (h + d)) ((h + d : Nat) : Int) l).take m
    · have := (okH_iff.1 (cand_sub (List.mem_of_mem_take e)).2).2.2
      omega
    · rw [if_neg e]; exact hrun_late hl m hh hj d
theorem cand_nodup {xs : List (Int × Int)} {o : List Int} {h : Int} {l : List Nat} (hl : OrdE xs l) : (cand xs o h l).Nodup := hl.nodup.sublist List.filter_sublist
theorem cand_pw {xs : List (Int × Int)} {o : List Int} {h : Int} {l : List Nat} (hl : OrdE xs l) : (cand xs o h l).Pairwise (PreK (ends xs)) := List.Pairwise.sublist List.filter_sublist hl.1
/-- The hour's list. -/
def atH (xs : List (Int × Int)) (l : List Nat) (m t : Nat) : List Nat := (cand xs (hrun xs l m t) t l).take m
/-- An hour that a load could have had, and has not, is full with loads that end no later. -/
theorem full_of {xs : List (Int × Int)} {l : List Nat} (hl : OrdE xs l) (m : Nat) {t i : Nat} (hi : i < xs.length) (h1 : (xs.getD i (0, 0)).1 ≤ t) (h2 : (t : Int) ≤ (xs.getD i (0, 0)).2) (hf : (hrun xs l m (t + 1)).getD i 0 = -1) :
    (atH xs l m t).length = m ∧ ∀ j ∈ atH xs l m t, (xs.getD j (0, 0)).2 ≤ (xs.getD i (0, 0)).2 := by
  have hf0 := hrun_free hl m (Nat.le_succ t) hf
  have hic : i ∈ cand xs (hrun xs l m t) t l := by
    unfold cand; rw [List.mem_filter]; exact ⟨hl.mem.2 hi, okH_iff.2 ⟨hf0, h1, h2⟩⟩
  have hn : i ∉ (cand xs (hrun xs l m t) t l).take m := by
    intro e; rw [hrun_at hl, if_pos e] at hf; omega
  have hd : i ∈ (cand xs (hrun xs l m t) t l).drop m := by
    rw [← List.take_append_drop m (cand xs (hrun xs l m t) t l)] at hic
    rcases List.mem_append.1 hic with k | k
    · exact absurd k hn
    · exact k
  have hpw := cand_pw (o := hrun xs l m t) (h := (t : Int)) hl
  rw [← List.take_append_drop m (cand xs (hrun xs l m t) t l), List.pairwise_append] at hpw
  refine ⟨?_, fun j hj => ?_⟩
  · have : m < (cand xs (hrun xs l m t) t l).length := by
      have := List.length_pos_of_mem hd
      rw [List.length_drop] at this; omega
    unfold atH; rw [List.length_take]; omega
  · have := hpw.2.2 j hj i hd
    unfold PreK at this
    rw [ky_ends, ky_ends] at this; omega
/-- An hour is full with loads that end at b or before. -/
def FullH (xs : List (Int × Int)) (l : List Nat) (m : Nat) (b : Int) (t : Nat) : Prop := (atH xs l m t).length = m ∧ ∀ j ∈ atH xs l m t, (xs.getD j (0, 0)).2 ≤ b
theorem stretch {F : Nat → Prop} : ∀ b, F b → ∃ a, a ≤ b ∧ (∀ t, a ≤ t → t ≤ b → F t) ∧ (a = 0 ∨ ¬ F (a - 1))
  | 0, h => ⟨0, by omega, fun t _ ht => by rw [show t = 0 by omega]; exact h, .inl rfl⟩
  | b + 1, h => by
    by_cases hb : F b
    · obtain ⟨a, a1, a2, a3⟩ := stretch b hb
      refine ⟨a, by omega, fun t h1 h2 => ?_, a3⟩
      by_cases e : t = b + 1
      · subst e; exact h
      · exact a2 t h1 (by omega)
    · exact ⟨b + 1, by omega, fun t h1 h2 => by rw [show t = b + 1 by omega]; exact h, .inr hb⟩
/-- The lists of k hours. -/
def hoursL (xs : List (Int × Int)) (l : List Nat) (m a : Nat) : Nat → List Nat
  | 0 => []
  | k + 1 => hoursL xs l m a k ++ atH xs l m (a + k)
theorem hoursL_mem {xs : List (Int × Int)} {l : List Nat} {m a j : Nat} : ∀ {k : Nat}, j ∈ hoursL xs l m a k → ∃ t, a ≤ t ∧ t < a + k ∧ j ∈ atH xs l m t
  | 0, h => by simp [hoursL] at h
  | k + 1, h => by
    rw [hoursL, List.mem_append] at h
    rcases h with h | h
    · obtain ⟨t, t1, t2, t3⟩ := hoursL_mem h; exact ⟨t, t1, by omega, t3⟩
    · exact ⟨a + k, by omega, by omega, h⟩
theorem atH_at {xs : List (Int × Int)} {l : List Nat} (hl : OrdE xs l) {m t j : Nat} (h : j ∈ atH xs l m t) : (hrun xs l m t).getD j 0 = -1 ∧ (hrun xs l m (t + 1)).getD j 0 = t := by
  refine ⟨(okH_iff.1 (cand_sub (List.mem_of_mem_take h)).2).1, ?_⟩
  rw [hrun_at hl]; exact if_pos h
theorem hoursL_nodup {xs : List (Int × Int)} {l : List Nat} (hl : OrdE xs l) (m a : Nat) : ∀ k, (hoursL xs l m a k).Nodup
  | 0 => by simp [hoursL]
  | k + 1 => by
    rw [hoursL, List.nodup_append]
    refine ⟨hoursL_nodup hl m a k, (cand_nodup hl).sublist (List.take_sublist _ _), fun x hx y hy e => ?_⟩
    subst e
    obtain ⟨t, t1, t2, t3⟩ := hoursL_mem hx
    have h1 := (atH_at hl t3).2
    have h2 := (atH_at hl hy).1
    have := hrun_free hl m (h := t + 1) (g := a + k) (by omega) h2
    rw [h1] at this; omega
theorem hoursL_len {xs : List (Int × Int)} {l : List Nat} {m a : Nat} : ∀ {k : Nat}, (∀ t, a ≤ t → t < a + k → (atH xs l m t).length = m) → (hoursL xs l m a k).length = m * k
  | 0, _ => by simp [hoursL]
  | k + 1, h => by
    rw [hoursL, List.length_append, hoursL_len (fun t h1 h2 => h t h1 (by omega)), h (a + k) (by omega) (by omega), Nat.mul_succ]
/-- So many different loads of a kind, so many at least are counted. -/
theorem count_ge {xs : List (Int × Int)} {p : Int × Int → Bool} {L : List Nat} (hd : L.Nodup) (h : ∀ j ∈ L, j < xs.length ∧ p (xs.getD j (0, 0)) = true) : L.length ≤ xs.countP p := by
  have h1 := nodup_len L ((List.range xs.length).filter (fun j => p (xs.getD j (0, 0)))) hd (fun j hj => by
    rw [List.mem_filter, List.mem_range]; exact h j hj)
  have h2 : ((List.range xs.length).filter (fun j => p (xs.getD j (0, 0)))).length = xs.countP p := by
    rw [← List.countP_eq_length_filter]
    have e : xs = (List.range xs.length).map (fun j => xs.getD j (0, 0)) := by
      apply List.ext_getElem
      · simp
      · intro i h1 h2; simp [h1]
    conv => rhs; rw [e, List.countP_map]
    rfl
  omega
/-- If no stretch has too many loads, all have an hour at last. -/
theorem edf {xs : List (Int × Int)} {l : List Nat} (hl : OrdE xs l) (hb : ldB xs = true) {m : Nat} (hc : ∀ a b : Nat, a ≤ b → b < 10 → cntW xs a b ≤ m * (b - a + 1)) {i : Nat} (hi : i < xs.length) : (hrun xs l m 10).getD i 0 ≠ -1 := by
  intro hf
  have hv := ldV_iff.1 ((ldB_iff.1 hb).2 xs[i] (List.getElem_mem hi))
  have ei : xs.getD i (0, 0) = xs[i] := by simp [hi]
  obtain ⟨b, hbe⟩ : ∃ b : Nat, xs[i].2 = (b : Int) := ⟨xs[i].2.toNat, by omega⟩
  have hfb : FullH xs l m b b := by
    have := full_of hl m (t := b) hi (by rw [ei]; omega) (by rw [ei]; omega) (hrun_free hl m (h := b + 1) (g := 10) (by omega) hf)
    rw [ei, hbe] at this; exact this
  obtain ⟨a, a1, a2, a3⟩ := stretch (F := FullH xs l m b) b hfb
  -- each of them begins at a or later
  have key : ∀ j, j < xs.length → (xs.getD j (0, 0)).2 ≤ b → (a : Int) ≤ (xs.getD j (0, 0)).2 → (hrun xs l m a).getD j 0 = -1 → (a : Int) ≤ (xs.getD j (0, 0)).1 := by
    intro j hj h1 h2 h3
    apply Classical.byContradiction
    intro hn
    have h0 : a ≠ 0 := by
      intro e
      have ej : xs.getD j (0, 0) = xs[j] := by simp [hj]
      have := ldV_iff.1 ((ldB_iff.1 hb).2 xs[j] (List.getElem_mem hj))
      rw [ej] at hn; omega
    rcases a3 with a3 | a3
    · exact h0 a3
    · apply a3
      have := full_of hl m (t := a - 1) hj (by omega) (by omega) (by rw [show a - 1 + 1 = a by omega]; exact h3)
      exact ⟨this.1, fun k hk => by have := this.2 k hk; omega⟩
  have hL := hoursL_nodup hl m a (b - a + 1)
  have hiL : i ∉ hoursL xs l m a (b - a + 1) := by
    intro e
    obtain ⟨t, t1, t2, t3⟩ := hoursL_mem e
    have h1 := (atH_at hl t3).2
    have := hrun_free hl m (h := t + 1) (g := 10) (by omega) hf
    rw [h1] at this; omega
  have hcount := count_ge (xs := xs) (p := inW a b) (L := i :: hoursL xs l m a (b - a + 1)) (List.nodup_cons.2 ⟨hiL, hL⟩) (by
    have one : ∀ j, j < xs.length → (xs.getD j (0, 0)).2 ≤ b → (a : Int) ≤ (xs.getD j (0, 0)).2 → (hrun xs l m a).getD j 0 = -1 → j < xs.length ∧ inW a b (xs.getD j (0, 0)) = true := by
      intro j h1 h2 h3 h4
      refine ⟨h1, ?_⟩
      unfold inW
      rw [decide_eq_true (key j h1 h2 h3 h4), decide_eq_true h2]; rfl
    intro j hj
    rcases List.mem_cons.1 hj with rfl | hj
    · exact one j hi (by rw [ei]; omega) (by rw [ei]; omega) (hrun_free hl m (by omega) hf)
    · obtain ⟨t, t1, t2, t3⟩ := hoursL_mem hj
      have h5 := okH_iff.1 (cand_sub (List.mem_of_mem_take t3)).2
      exact one j (hl.mem.1 (cand_sub (List.mem_of_mem_take t3)).1) ((a2 t t1 (by omega)).2 j t3) (by have := h5.2.2; omega) (hrun_free hl m t1 h5.1))
  rw [List.length_cons, hoursL_len (fun t h1 h2 => (a2 t h1 (by omega)).1)] at hcount
  have := hc a b a1 (by omega)
  unfold cntW at this
  omega
/-- Loads put into hours: those of a stretch are at most all in its hours. -/
theorem cnt_put : ∀ (xs : List (Int × Int)) (hs : List Int), hs.length = xs.length → (∀ i (h : i < xs.length), xs[i].1 ≤ hs.getD i 0 ∧ hs.getD i 0 ≤ xs[i].2) → ∀ a b : Int, cntW xs a b ≤ hs.countP (fun t => decide (a ≤ t) && decide (t ≤ b))
  | [], hs, _, _, a, b => by simp [cntW]
  | x :: xs, [], h, _, a, b => by simp at h
  | x :: xs, t :: hs, h, hp, a, b => by
    have ih := cnt_put xs hs (by simpa using h) (fun i hi => hp (i + 1) (Nat.succ_lt_succ hi)) a b
    have h0 := hp 0 (by simp)
    simp at h0
    unfold cntW at *
    rw [List.countP_cons, List.countP_cons]
    by_cases e : inW a b x = true
    · rw [if_pos e]
      unfold inW at e
      simp only [Bool.and_eq_true, decide_eq_true_eq] at e
      rw [if_pos (by simp only [Bool.and_eq_true, decide_eq_true_eq]; omega)]; omega
    · rw [if_neg e]; omega
theorem cnt_sum (hs : List Int) (a : Int) {m : Nat} (hm : ∀ t : Int, hs.count t ≤ m) : ∀ k : Nat, hs.countP (fun t => decide (a ≤ t) && decide (t ≤ a + k - 1)) ≤ m * k
  | 0 => by
    rw [List.countP_eq_zero.2]; · omega
    intro t _; simp; omega
  | k + 1 => by
    have ih := cnt_sum hs a hm k
    have h1 := hm (a + k)
    have e : hs.countP (fun t => decide (a ≤ t) && decide (t ≤ a + ((k + 1 : Nat) : Int) - 1)) ≤ hs.countP (fun t => decide (a ≤ t) && decide (t ≤ a + k - 1)) + hs.count (a + k) := by
      clear ih h1
      induction hs with
      | nil => simp
      | cons t hs ih =>
        have ih := ih (fun u => Nat.le_trans (by rw [List.count_cons]; omega) (hm u))
        rw [List.countP_cons, List.countP_cons, List.count_cons]
        by_cases e1 : a ≤ t ∧ t ≤ a + ((k + 1 : Nat) : Int) - 1
        · rw [if_pos (by simp only [Bool.and_eq_true, decide_eq_true_eq]; exact e1)]
          by_cases e2 : t = a + k
          · rw [if_pos (c := (t == a + k) = true) (by simpa using e2)]; omega
          · rw [if_pos (c := (decide (a ≤ t) && decide (t ≤ a + (k : Int) - 1)) = true) (by simp only [Bool.and_eq_true, decide_eq_true_eq]; omega)]; omega
        · rw [if_neg (by simp only [Bool.and_eq_true, decide_eq_true_eq]; exact e1)]; omega
    rw [Nat.mul_succ]; omega
theorem cnt_hours {xs : List (Int × Int)} {hs : List Int} (hn : hs.length = xs.length) (hp : ∀ i (h : i < xs.length), xs[i].1 ≤ hs.getD i 0 ∧ hs.getD i 0 ≤ xs[i].2) {m : Nat} (hm : ∀ t : Int, hs.count t ≤ m) (a b : Nat) (hab : a ≤ b) : cntW xs a b ≤ m * (b - a + 1) := by
  have h1 := cnt_put xs hs hn hp a b
  have h2 := cnt_sum hs a hm (b - a + 1)
  rw [show (a : Int) + ((b - a + 1 : Nat) : Int) - 1 = b by omega] at h2
  omega
/-- The bound is at most a number exactly if no stretch has too many. -/
theorem clI_le_iff {n a b : Nat} (m : Nat) (h : a ≤ b) : clI n a b ≤ m ↔ n ≤ m * (b - a + 1) := by
  unfold clI
  have h1 : ((n : Int) + b - a) / ((b : Int) - a + 1) ≤ m ↔ ((n : Int) + b - a) / ((b : Int) - a + 1) < (m : Int) + 1 := by omega
  rw [h1, Int.ediv_lt_iff_lt_mul (by omega)]
  have e : ((m : Int) + 1) * ((b : Int) - a + 1) = ((m * (b - a + 1) : Nat) : Int) + b - a + 1 := by
    rw [Int.natCast_mul, show ((b - a + 1 : Nat) : Int) = (b : Int) - a + 1 by omega]; grind
  rw [e]; omega
theorem lbN_le_iff (xs : List (Int × Int)) (a m : Nat) : ∀ (j : Nat) (v : Int), lbN xs a j v ≤ m ↔ v ≤ m ∧ ∀ k, k < j → cntW xs a ((a + k : Nat) : Int) ≤ m * (k + 1)
  | 0, v => by simp [lbN]
  | j + 1, v => by
    have ih := lbN_le_iff xs a m j v
    have h1 : lbN xs a (j + 1) v ≤ m ↔ lbN xs a j v ≤ m ∧ clI (cntW xs a (a + j)) a (a + j) ≤ m := by simp only [lbN]; omega
    rw [h1, ih]
    have h2 := clI_le_iff (n := cntW xs a (a + j)) (a := a) (b := a + j) m (by omega)
    rw [show a + j - a + 1 = j + 1 by omega] at h2
    rw [show ((a + j : Nat) : Int) = (a : Int) + j by omega] at h2
    rw [h2]
    constructor
    · rintro ⟨⟨h3, h4⟩, h5⟩
      refine ⟨h3, fun k hk => ?_⟩
      by_cases e : k = j
      · subst e; exact h5
      · exact h4 k (by omega)
    · rintro ⟨h3, h4⟩
      exact ⟨⟨h3, fun k hk => h4 k (by omega)⟩, h4 j (by omega)⟩
theorem lbO_le_iff (xs : List (Int × Int)) (m : Nat) : ∀ A, lbO xs A ≤ m ↔ ∀ a b : Nat, a < A → a ≤ b → b < 10 → cntW xs a b ≤ m * (b - a + 1)
  | 0 => by simp [lbO]
  | A + 1 => by
    rw [lbO, lbN_le_iff, lbO_le_iff xs m A]
    constructor
    · rintro ⟨h1, h2⟩ a b h3 h4 h5
      by_cases e : a = A
      · subst e
        have := h2 (b - a) (by omega)
        rwa [show a + (b - a) = b by omega] at this
      · exact h1 a b (by omega) h4 h5
    · intro h
      refine ⟨fun a b h1 h2 h3 => h a b (by omega) h2 h3, fun k hk => ?_⟩
      have := h A (A + k) (by omega) (by omega) (by omega)
      rwa [show A + k - A + 1 = k + 1 by omega] at this
theorem lbI_le_iff {xs : List (Int × Int)} (hb : ldB xs = true) (m : Nat) : lbI xs ≤ m ↔ ∀ a b : Nat, a ≤ b → b < 10 → cntW xs a b ≤ m * (b - a + 1) := by
  rw [lbI_yes hb, lbO_le_iff]
  exact ⟨fun h a b h1 h2 => h a b (by omega) h1 h2, fun h a b _ h1 h2 => h a b h1 h2⟩
/-- No hour has more than so many. -/
theorem count_set_new (o : List Int) (i : Nat) (h t : Int) (hi : i < o.length) (ht : t ≠ h) : (o.set i h).count t ≤ o.count t := by
  rw [List.count_set hi]
  have : (h == t) = false := by simpa using fun e : h = t => ht e.symm
  rw [this]; simp
theorem setL_count_ne {h t : Int} (ht : t ≠ h) : ∀ (is : List Nat) (o : List Int), (∀ i ∈ is, i < o.length) → (setL o h is).count t ≤ o.count t
  | [], o, _ => Nat.le_refl _
  | i :: is, o, hb => by
    have h1 := setL_count_ne ht is (o.set i h) (fun k hk => by simpa using hb k (by simp [hk]))
    have h2 := count_set_new o i h t (hb i (by simp)) ht
    show (setL (o.set i h) h is).count t ≤ _
    omega
theorem setL_count_le (h : Int) : ∀ (is : List Nat) (o : List Int), (∀ i ∈ is, i < o.length) → (setL o h is).count h ≤ o.count h + is.length
  | [], o, _ => by simp [setL]
  | i :: is, o, hb => by
    have h1 := setL_count_le h is (o.set i h) (fun k hk => by simpa using hb k (by simp [hk]))
    have h2 : (o.set i h).count h ≤ o.count h + 1 := by
      rw [List.count_set (hb i (by simp))]; simp
    show (setL (o.set i h) h is).count h ≤ _
    simp only [List.length_cons]; omega
theorem hrun_count {xs : List (Int × Int)} {l : List Nat} (hl : OrdE xs l) (m : Nat) : ∀ h, (∀ t : Int, t ≠ -1 → (hrun xs l m h).count t ≤ m) ∧ ∀ t : Int, h ≤ t → (hrun xs l m h).count t = 0
  | 0 => by
    have : ∀ t : Int, t ≠ -1 → (hrun xs l m 0).count t = 0 := fun t ht => by
      rw [hrun, List.count_replicate]
      have : ((-1 : Int) == t) = false := by simpa using fun e : -1 = t => ht e.symm
      simp [this]
    exact ⟨fun t ht => by rw [this t ht]; omega, fun t ht => this t (by omega)⟩
  | h + 1 => by
    have ih := hrun_count hl m h
    have hlt := cand_lt (h := (h : Int)) hl (hrun_len xs l m h) m
    have hne : ∀ t : Int, t ≠ h → (hrun xs l m (h + 1)).count t ≤ (hrun xs l m h).count t := fun t ht => setL_count_ne ht _ _ hlt
    refine ⟨fun t ht => ?_, fun t ht => ?_⟩
    · by_cases e : t = h
      · subst e
        have h1 := setL_count_le (h : Int) _ _ hlt
        have h2 := ih.2 h (by omega)
        have h3 : ((cand xs (hrun xs l m h) h l).take m).length ≤ m := by rw [List.length_take]; omega
        show (setL _ _ _).count _ ≤ m
        omega
      · exact Nat.le_trans (hne t e) (ih.1 t ht)
    · have := hne t (by omega)
      have := ih.2 t (by omega)
      omega
/-- All have an hour at last. -/
def allH (xs : List (Int × Int)) (l : List Nat) (m : Nat) : Bool := !(hrun xs l m 10).contains (-1)
theorem allH_iff {xs : List (Int × Int)} {l : List Nat} {m : Nat} : allH xs l m = true ↔ ∀ i, i < xs.length → (hrun xs l m 10).getD i 0 ≠ -1 := by
  unfold allH
  rw [Bool.not_eq_true', ← Bool.not_eq_true, List.contains_iff_mem]
  constructor
  · intro h i hi e
    apply h
    have hi' : i < (hrun xs l m 10).length := by rw [hrun_len]; exact hi
    have : (hrun xs l m 10)[i] = -1 := by simpa [List.getD, hi'] using e
    rw [← this]; exact List.getElem_mem hi'
  · intro h e
    obtain ⟨i, hi, e⟩ := List.mem_iff_getElem.1 e
    exact h i (by rw [hrun_len] at hi; exact hi) (by simp [List.getD, hi, e])
theorem allH_bound {xs : List (Int × Int)} {l : List Nat} (hl : OrdE xs l) (hb : ldB xs = true) (m : Nat) : allH xs l m = true ↔ lbI xs ≤ m := by
  rw [lbI_le_iff hb]
  constructor
  · intro h a b hab hb10
    have hall := allH_iff.1 h
    refine cnt_hours (hs := hrun xs l m 10) (hrun_len _ _ _ _) (fun i hi => ?_) (fun t => ?_) a b hab
    · rcases hrun_own hl m 10 i hi with k | ⟨t, _, k, k1, k2⟩
      · exact absurd k (hall i hi)
      · have e : xs.getD i (0, 0) = xs[i] := by simp [hi]
        rw [e] at k1 k2; rw [k]; exact ⟨k1, k2⟩
    · by_cases e : t = -1
      · subst e
        rw [List.count_eq_zero.2]; · omega
        unfold allH at h
        rw [Bool.not_eq_true', ← Bool.not_eq_true, List.contains_iff_mem] at h
        exact h
      · exact (hrun_count hl m 10).1 t e
  · intro h
    exact allH_iff.2 fun i hi => edf hl hb h hi
/-- The peak of hours, if they are right. -/
theorem allH_in {xs : List (Int × Int)} {l : List Nat} (hl : OrdE xs l) {m : Nat} (h : allH xs l m = true) : ∀ k, k ≤ xs.length → inK xs (hrun xs l m 10) k = true
  | 0, _ => rfl
  | k + 1, hk => by
    rw [inK, allH_in hl h k (by omega)]
    rcases hrun_own hl m 10 k (by omega) with e | ⟨t, _, e, k1, k2⟩
    · exact absurd e (allH_iff.1 h k (by omega))
    · rw [e]; simp only [Bool.true_and, decide_eq_true_eq]; exact ⟨k1, k2⟩
theorem inK_at {xs : List (Int × Int)} {hs : List Int} : ∀ {k : Nat}, inK xs hs k = true → ∀ i, i < k → (xs.getD i (0, 0)).1 ≤ hs.getD i 0 ∧ hs.getD i 0 ≤ (xs.getD i (0, 0)).2
  | 0, _, i, hi => by omega
  | k + 1, h, i, hi => by
    rw [inK] at h
    simp only [Bool.and_eq_true, decide_eq_true_eq] at h
    by_cases e : i = k
    · subst e; exact h.2
    · exact inK_at h.1 i (by omega)
theorem mx_le {c : Int} (hc : 0 ≤ c) : ∀ {l : List Int}, (∀ x ∈ l, x ≤ c) → mx l ≤ c
  | [], _ => by simpa [mx] using hc
  | x :: l, h => by
    have h1 := h x (by simp)
    have h2 := mx_le hc (l := l) (fun y hy => h y (by simp [hy]))
    simp only [mx]; omega
theorem mx_ge : ∀ {l : List Int} {x : Int}, x ∈ l → x ≤ mx l
  | [], x, h => by simp at h
  | y :: l, x, h => by
    simp only [mx]
    rcases List.mem_cons.1 h with rfl | h
    · omega
    · have := mx_ge h; omega
theorem inK_bd {xs : List (Int × Int)} {hs : List Int} (hb : ldB xs = true) (hn : hs.length = xs.length) (h : inK xs hs hs.length = true) : ∀ x ∈ hs, 0 ≤ x ∧ x ≤ 9 := by
  intro x hx
  obtain ⟨i, hi, rfl⟩ := List.mem_iff_getElem.1 hx
  have h1 := inK_at h i hi
  have hi2 : i < xs.length := by omega
  have e1 : xs.getD i (0, 0) = xs[i] := by simp [hi2]
  have e2 : hs.getD i 0 = hs[i] := by simp [hi]
  have := ldV_iff.1 ((ldB_iff.1 hb).2 xs[i] (List.getElem_mem hi2))
  rw [e1, e2] at h1; omega
/-- No way to put loads has a lesser peak than the bound. -/
theorem peak_bound {xs : List (Int × Int)} {hs : List Int} (hb : ldB xs = true) (hn : hs.length = xs.length) (h : inK xs hs hs.length = true) : lbI xs ≤ pkK hs hs.length := by
  have hbd := inK_bd hb hn h
  have hmx := mx_cts hbd hs.length (Nat.le_refl _)
  have hnn := (pkK_bd hs hs.length).1
  obtain ⟨m, hm⟩ : ∃ m : Nat, pkK hs hs.length = (m : Int) := ⟨(pkK hs hs.length).toNat, by omega⟩
  rw [hm, lbI_le_iff hb]
  intro a b hab hb10
  refine cnt_hours hn (fun i hi => ?_) (fun t => ?_) a b hab
  · have := inK_at h i (by omega)
    have e : xs.getD i (0, 0) = xs[i] := by simp [hi]
    rwa [e] at this
  · by_cases ht : t ∈ hs
    · have hb := hbd t ht
      have h1 : ((hs.count t : Nat) : Int) ∈ cts hs hs.length := by
        unfold cts
        rw [List.mem_map]
        exact ⟨t.toNat, by rw [List.mem_range]; omega, by rw [List.take_length, show ((t.toNat : Nat) : Int) = t by omega]⟩
      have := mx_ge h1
      rw [hmx, hm] at this; omega
    · rw [List.count_eq_zero.2 ht]; omega
theorem lpY {xs : List (Int × Int)} {hs : List Int} (h1 : ldB xs = true) (h2 : hs.length = xs.length) (h3 : inK xs hs hs.length = true) : lpI xs hs = pkK hs hs.length := by unfold lpI; rw [h1, decide_eq_true h2, h3]; rfl
theorem lpN {xs : List (Int × Int)} {hs : List Int} : lpI xs hs = -1 ∨ (ldB xs = true ∧ hs.length = xs.length ∧ inK xs hs hs.length = true ∧ lpI xs hs = pkK hs hs.length) := by
  unfold lpI; split
  · rename_i h; simp only [Bool.and_eq_true, decide_eq_true_eq] at h; exact .inr ⟨h.1, h.2.1, h.2.2, rfl⟩
  · exact .inl rfl
theorem lp_law {xs : List (Int × Int)} {hs : List Int} : lpI xs hs = -1 ∨ (0 ≤ lpI xs hs ∧ 0 ≤ lbI xs ∧ lbI xs ≤ lpI xs hs) := by
  rcases lpN (xs := xs) (hs := hs) with h | ⟨h1, h2, h3, h4⟩
  · exact .inl h
  · right; rw [h4]
    exact ⟨(pkK_bd hs hs.length).1, by rw [lbI_yes h1]; exact lbO_nn xs 10, peak_bound h1 h2 h3⟩
theorem allH_peak {xs : List (Int × Int)} {l : List Nat} (hl : OrdE xs l) (hb : ldB xs = true) {m : Nat} (h : allH xs l m = true) : pkK (hrun xs l m 10) (hrun xs l m 10).length ≤ m := by
  have hn := hrun_len xs l m 10
  have hin := allH_in hl h xs.length (Nat.le_refl _)
  have hbd := inK_bd hb hn (by rw [hn]; exact hin)
  rw [← mx_cts hbd _ (Nat.le_refl _)]
  refine mx_le (by omega) fun x hx => ?_
  unfold cts at hx
  rw [List.mem_map] at hx
  obtain ⟨c, _, rfl⟩ := hx
  rw [List.take_length]
  have := (hrun_count hl m 10).1 c (by omega)
  omega
/-- There is an order. -/
theorem srt_exists {P : Nat → Nat → Prop} {n : Nat} (hT : Tot n P) (hto : ∀ i j, i ≠ j → P i j ∨ P j i) : ∀ i, i ≤ n → ∃ l, SrtP P i l
  | 0, _ => ⟨[], rfl, .nil, fun x => by simp⟩
  | i + 1, h => by
    classical
    obtain ⟨l, h1, h2, h3⟩ := srt_exists hT hto i (by omega)
    have ha : ∀ x, x ∈ l.filter (fun x => decide (P x i)) ↔ x < i ∧ P x i := fun x => by simp [h3]
    have hb : ∀ x, x ∈ l.filter (fun x => !decide (P x i)) ↔ x < i ∧ ¬ P x i := fun x => by simp [h3]
    refine ⟨l.filter (fun x => decide (P x i)) ++ i :: l.filter (fun x => !decide (P x i)), ?_, ?_, ?_⟩
    · rw [List.length_append, List.length_cons, ← List.countP_eq_length_filter, ← List.countP_eq_length_filter]
      have := List.length_eq_countP_add_countP (fun x => decide (P x i)) (l := l)
      have e : List.countP (fun x => !decide (P x i)) l = List.countP (fun a => decide ¬(decide (P a i)) = true) l := by
        congr 1; funext a; simp
      omega
    · rw [List.pairwise_append, List.pairwise_cons]
      refine ⟨h2.sublist List.filter_sublist, ⟨fun x hx => ?_, h2.sublist List.filter_sublist⟩, fun x hx y hy => ?_⟩
      · have := (hb x).1 hx
        rcases hto i x (by omega) with k | k
        · exact k
        · exact absurd k this.2
      · have h4 := (ha x).1 hx
        rcases List.mem_cons.1 hy with rfl | hy
        · exact h4.2
        · have h5 := (hb y).1 hy
          have h6 : P i y := by
            rcases hto i y (by omega) with k | k
            · exact k
            · exact absurd k h5.2
          exact hT.trans x i y (by omega) (by omega) (by omega) h4.2 h6
    · intro x
      rw [List.mem_append, List.mem_cons, ha, hb]
      constructor
      · rintro (k | k | k) <;> omega
      · intro k
        by_cases e : x = i
        · exact .inr (.inl e)
        · by_cases p : P x i
          · exact .inl ⟨by omega, p⟩
          · exact .inr (.inr ⟨by omega, p⟩)
theorem preK_total (ks : List Int) (i j : Nat) (h : i ≠ j) : PreK ks i j ∨ PreK ks j i := by unfold PreK; omega
noncomputable def lo (xs : List (Int × Int)) : List Nat := ordL xs.length (PreK (ends xs))
theorem lo_is {xs : List (Int × Int)} {n : Nat} (hn : xs.length = n) {l : List Nat} (h : IsOrd n (PreK (ends xs)) l) : lo xs = l := by subst hn; exact ordL_is (preK_tot _ _) h
theorem lo_ord (xs : List (Int × Int)) : OrdE xs (lo xs) := by
  obtain ⟨l, hl⟩ := srt_exists (preK_tot (ends xs) xs.length) (preK_total _) xs.length (Nat.le_refl _)
  rw [lo_is rfl hl.isOrd]; exact hl.isOrd
/-- What LoadsWith gives. -/
noncomputable def lwB (xs : List (Int × Int)) (m : Int) : Bool := ldB xs && (decide (1 ≤ m ∧ m ≤ 7) && allH xs (lo xs) m.toNat)
noncomputable def lwL (xs : List (Int × Int)) (m : Int) : List Int := if lwB xs m = true then hrun xs (lo xs) m.toNat 10 else []
theorem lwB_iff {xs : List (Int × Int)} {m : Int} (hb : ldB xs = true) : lwB xs m = true ↔ 1 ≤ m ∧ m ≤ 7 ∧ lbI xs ≤ m := by
  unfold lwB
  rw [hb, Bool.true_and, Bool.and_eq_true, decide_eq_true_eq]
  constructor
  · rintro ⟨⟨h1, h2⟩, h3⟩
    have := (allH_bound (lo_ord xs) hb m.toNat).1 h3
    omega
  · rintro ⟨h1, h2, h3⟩
    exact ⟨⟨h1, h2⟩, (allH_bound (lo_ord xs) hb m.toNat).2 (by omega)⟩
theorem lwB_no1 {xs : List (Int × Int)} {m : Int} (h : ldB xs = false) : lwB xs m = false := by unfold lwB; rw [h]; rfl
theorem lwB_no2 {xs : List (Int × Int)} {m : Int} (h : ¬ (1 ≤ m ∧ m ≤ 7)) : lwB xs m = false := by unfold lwB; rw [decide_eq_false h]; simp
theorem lwB_is {xs : List (Int × Int)} {m : Nat} (h : ldB xs = true) (h1 : 1 ≤ m) (h7 : m ≤ 7) : lwB xs m = allH xs (lo xs) m := by
  unfold lwB; rw [h, decide_eq_true (by omega)]; simp
theorem lwL_no {xs : List (Int × Int)} {m : Int} (h : lwB xs m = false) : lwL xs m = [] := by unfold lwL; rw [h]; rfl
theorem lwL_yes {xs : List (Int × Int)} {m : Nat} (h : lwB xs m = true) : lwL xs m = hrun xs (lo xs) m 10 := by unfold lwL; rw [if_pos h]; simp
theorem lwL_len7 (xs : List (Int × Int)) (m : Int) : (lwL xs m).length ≤ 7 := by
  cases h : lwB xs m
  · rw [lwL_no h]; simp
  · unfold lwL; rw [if_pos h, hrun_len]
    have hb : ldB xs = true := by cases hb : ldB xs; rw [lwB_no1 hb] at h; cases h; rfl
    exact (ldB_iff.1 hb).1
theorem lbI_pos {xs : List (Int × Int)} (hb : ldB xs = true) (hn : 0 < xs.length) : 1 ≤ lbI xs := by
  apply Classical.byContradiction
  intro hc
  have h0 : lbI xs ≤ ((0 : Nat) : Int) := by omega
  rw [lbI_le_iff hb] at h0
  have hv := ldV_iff.1 ((ldB_iff.1 hb).2 xs[0] (List.getElem_mem hn))
  have h1 := h0 xs[0].1.toNat xs[0].2.toNat (by omega) (by omega)
  have h2 := count_ge (xs := xs) (p := inW xs[0].1.toNat xs[0].2.toNat) (L := [0]) (by simp) (fun j hj => by
    obtain rfl : j = 0 := by simpa using hj
    refine ⟨hn, ?_⟩
    have e : xs.getD 0 (0, 0) = xs[0] := by simp [hn]
    rw [e]; unfold inW; rw [decide_eq_true (by omega), decide_eq_true (by omega)]; rfl)
  unfold cntW at h1
  rw [Nat.zero_mul] at h1
  have h3 : 1 ≤ xs.countP (inW xs[0].1.toNat xs[0].2.toNat) := h2
  omega
theorem lbI_len {xs : List (Int × Int)} (hb : ldB xs = true) : lbI xs ≤ xs.length := by
  rw [lbI_yes hb]; exact lbO_le xs (Int.le_refl _) 10
theorem lbI_nn {xs : List (Int × Int)} (hb : ldB xs = true) : 0 ≤ lbI xs := by rw [lbI_yes hb]; exact lbO_nn xs 10
/-- The rounds of the program. -/
theorem ptC {xs : List (Int × Int)} {o : List Int} {h : Int} {l : List Nat} {m p : Nat} (hp : p < l.length) (hok : okH xs o h l[p] = true) (hr : (cand xs o h (l.take p)).length < m) : setL o h ((cand xs o h (l.take (p + 1))).take m) = (setL o h ((cand xs o h (l.take p)).take m)).set l[p] h ∧ (cand xs o h (l.take (p + 1))).length = (cand xs o h (l.take p)).length + 1 := by
  rw [cand_step xs o h l hp, if_pos hok]
  refine ⟨?_, by simp⟩
  rw [List.take_of_length_le (by simp; omega), List.take_of_length_le (l := cand xs o h (l.take p)) (by omega), setL_snoc]
theorem ptA {xs : List (Int × Int)} {o : List Int} {h : Int} {l : List Nat} {m p : Nat} (hp : p < l.length) (hok : okH xs o h l[p] = false) : cand xs o h (l.take (p + 1)) = cand xs o h (l.take p) := by
  rw [cand_step xs o h l hp, if_neg (by rw [hok]; simp)]; simp
theorem ptB {xs : List (Int × Int)} {o : List Int} {h : Int} {l : List Nat} {m p : Nat} (hp : p < l.length) (hr : m ≤ (cand xs o h (l.take p)).length) : (cand xs o h (l.take (p + 1))).take m = (cand xs o h (l.take p)).take m ∧ (cand xs o h (l.take p)).length ≤ (cand xs o h (l.take (p + 1))).length := by
  rw [cand_step xs o h l hp]
  exact ⟨List.take_append_of_le_length hr, by simp⟩
theorem pt_at {xs : List (Int × Int)} {o : List Int} {h : Int} {l : List Nat} (hl : OrdE xs l) (hn : o.length = xs.length) {m p : Nat} (hp : p < l.length) : (setL o h ((cand xs o h (l.take p)).take m)).getD l[p] 0 = o.getD l[p] 0 := by
  rw [setL_at _ _ _ _ (fun i hi => by rw [hn]; exact hl.mem.1 (List.mem_of_mem_take (cand_sub (List.mem_of_mem_take hi)).1)), if_neg]
  intro hc
  have h1 := (cand_sub (List.mem_of_mem_take hc)).1
  have hd := hl.nodup
  rw [← List.take_append_drop p l, List.nodup_append, List.drop_eq_getElem_cons hp] at hd
  exact hd.2.2 l[p] h1 l[p] List.mem_cons_self rfl
/-- The model's search: the load that ends first of those that have no hour yet. -/
def avL (xs : List (Int × Int)) (st : List Int) (h : Int) (i : Nat) : Prop := st.getD i 0 < 0 ∧ (xs.getD i (0, 0)).1 ≤ h
def BestL (xs : List (Int × Int)) (st : List Int) (h : Int) (j : Nat) (v : Int) : Prop := (v = -1 ∧ ∀ i, i < j → ¬ avL xs st h i) ∨ ∃ b : Nat, v = b ∧ b < j ∧ avL xs st h b ∧ ∀ i, i < j → avL xs st h i → i = b ∨ PreK (ends xs) b i
theorem bl_zero (xs : List (Int × Int)) (st : List Int) (h : Int) : BestL xs st h 0 (-1) := .inl ⟨rfl, fun i hi => by omega⟩
theorem bl_skip {xs : List (Int × Int)} {st : List Int} {h v : Int} {j : Nat} (hn : ¬ avL xs st h j) (hb : BestL xs st h j v) : BestL xs st h (j + 1) v := by
  rcases hb with ⟨h1, h2⟩ | ⟨b, h1, h2, h3, h4⟩
  · refine .inl ⟨h1, fun i hi => ?_⟩
    by_cases e : i = j
    · subst e; exact hn
    · exact h2 i (by omega)
  · refine .inr ⟨b, h1, by omega, h3, fun i hi ha => ?_⟩
    by_cases e : i = j
    · subst e; exact absurd ha hn
    · exact h4 i (by omega) ha
theorem bl_first {xs : List (Int × Int)} {st : List Int} {h v : Int} {j : Nat} (ha : avL xs st h j) (hv : v < 0) (hb : BestL xs st h j v) : BestL xs st h (j + 1) j := by
  rcases hb with ⟨h1, h2⟩ | ⟨b, h1, _⟩
  · refine .inr ⟨j, rfl, by omega, ha, fun i hi hi2 => ?_⟩
    by_cases e : i = j
    · exact .inl e
    · exact absurd hi2 (h2 i (by omega))
  · omega
theorem bl_less {xs : List (Int × Int)} {st : List Int} {h : Int} {j b : Nat} (ha : avL xs st h j) (hl : (xs.getD j (0, 0)).2 < (xs.getD b (0, 0)).2) (hb : BestL xs st h j b) : BestL xs st h (j + 1) j := by
  rcases hb with ⟨h1, h2⟩ | ⟨b', h1, h2, h3, h4⟩
  · omega
  · obtain rfl : b = b' := by omega
    refine .inr ⟨j, rfl, by omega, ha, fun i hi hi2 => ?_⟩
    by_cases e : i = j
    · exact .inl e
    · right
      unfold PreK; rw [ky_ends, ky_ends]
      rcases h4 i (by omega) hi2 with rfl | k
      · left; exact hl
      · unfold PreK at k; rw [ky_ends, ky_ends] at k; omega
theorem bl_keep {xs : List (Int × Int)} {st : List Int} {h : Int} {j b : Nat} (hl : ¬ (xs.getD j (0, 0)).2 < (xs.getD b (0, 0)).2) (hb : BestL xs st h j b) : BestL xs st h (j + 1) b := by
  rcases hb with ⟨h1, h2⟩ | ⟨b', h1, h2, h3, h4⟩
  · omega
  · obtain rfl : b = b' := by omega
    refine .inr ⟨b, rfl, by omega, h3, fun i hi hi2 => ?_⟩
    by_cases e : i = j
    · subst e; right; unfold PreK; rw [ky_ends, ky_ends]; omega
    · exact h4 i (by omega) hi2
theorem bl_lt {xs : List (Int × Int)} {st : List Int} {h v : Int} {j : Nat} (hb : BestL xs st h j v) : -1 ≤ v ∧ v < j := by
  rcases hb with ⟨h1, _⟩ | ⟨b, h1, h2, _⟩ <;> omega
theorem hrun_neg {xs : List (Int × Int)} {l : List Nat} (hl : OrdE xs l) (m h i : Nat) (hi : i < xs.length) : (hrun xs l m h).getD i 0 < 0 ↔ (hrun xs l m h).getD i 0 = -1 := by
  rcases hrun_own hl m h i hi with k | ⟨t, _, k, _⟩ <;> omega
theorem bl_over {xs : List (Int × Int)} {l : List Nat} (hl : OrdE xs l) (hb : ldB xs = true) {m h : Nat} {v : Int} (ho : ∃ i, i < xs.length ∧ (hrun xs l m h).getD i 0 = -1 ∧ (xs.getD i (0, 0)).2 < h) (hB : BestL xs (hrun xs l m h) h xs.length v) : ∃ b : Nat, v = b ∧ b < xs.length ∧ (xs.getD b (0, 0)).2 < h := by
  obtain ⟨i, i1, i2, i3⟩ := ho
  have e : xs.getD i (0, 0) = xs[i] := by simp [i1]
  have hv := ldV_iff.1 ((ldB_iff.1 hb).2 xs[i] (List.getElem_mem i1))
  have ha : avL xs (hrun xs l m h) h i := ⟨by omega, by rw [e] at i3 ⊢; omega⟩
  rcases hB with ⟨_, h2⟩ | ⟨b, h1, h2, h3, h4⟩
  · exact absurd ha (h2 i i1)
  · refine ⟨b, h1, h2, ?_⟩
    rcases h4 i i1 ha with rfl | k
    · exact i3
    · unfold PreK at k; rw [ky_ends, ky_ends] at k; omega
theorem over_no {xs : List (Int × Int)} {l : List Nat} (hl : OrdE xs l) {m h : Nat} (h10 : h < 10) (ho : ∃ i, i < xs.length ∧ (hrun xs l m h).getD i 0 = -1 ∧ (xs.getD i (0, 0)).2 < h) : allH xs l m = false := by
  obtain ⟨i, i1, i2, i3⟩ := ho
  have := hrun_late hl m i2 i3 (10 - h)
  rw [show h + (10 - h) = 10 by omega] at this
  cases ha : allH xs l m
  · rfl
  · exact absurd this (allH_iff.1 ha i i1)
theorem bl_step {xs : List (Int × Int)} {l : List Nat} (hl : OrdE xs l) {m h q : Nat} {v : Int} (hno : ¬ ∃ i, i < xs.length ∧ (hrun xs l m h).getD i 0 = -1 ∧ (xs.getD i (0, 0)).2 < h) (hB : BestL xs (setL (hrun xs l m h) h ((cand xs (hrun xs l m h) h l).take q)) h xs.length v) :
    (v = -1 ∧ (cand xs (hrun xs l m h) h l).take (q + 1) = (cand xs (hrun xs l m h) h l).take q) ∨ ∃ b : Nat, v = b ∧ b < xs.length ∧ (h : Int) ≤ (xs.getD b (0, 0)).2 ∧ setL (hrun xs l m h) h ((cand xs (hrun xs l m h) h l).take (q + 1)) = (setL (hrun xs l m h) h ((cand xs (hrun xs l m h) h l).take q)).set b h := by
  have hlt := cand_lt (h := (h : Int)) hl (hrun_len xs l m h) q
  have hnd := cand_nodup (o := hrun xs l m h) (h := (h : Int)) hl
  have hpw := cand_pw (o := hrun xs l m h) (h := (h : Int)) hl
  have hmem : ∀ i, i ∈ cand xs (hrun xs l m h) h l ↔ i < xs.length ∧ (hrun xs l m h).getD i 0 = -1 ∧ (xs.getD i (0, 0)).1 ≤ h ∧ (h : Int) ≤ (xs.getD i (0, 0)).2 := fun i => by
    unfold cand; rw [List.mem_filter, okH_iff, hl.mem]
  have hav : ∀ i, i < xs.length → (avL xs (setL (hrun xs l m h) h ((cand xs (hrun xs l m h) h l).take q)) h i ↔ i ∈ (cand xs (hrun xs l m h) h l).drop q) := by
    intro i hi
    unfold avL
    rw [setL_at _ _ _ _ hlt]
    have hdis : i ∈ (cand xs (hrun xs l m h) h l).take q → i ∉ (cand xs (hrun xs l m h) h l).drop q := fun h1 h2 => by
      rw [← List.take_append_drop q (cand xs (hrun xs l m h) h l), List.nodup_append] at hnd
      exact hnd.2.2 i h1 i h2 rfl
    have hor : i ∈ cand xs (hrun xs l m h) h l ↔ i ∈ (cand xs (hrun xs l m h) h l).take q ∨ i ∈ (cand xs (hrun xs l m h) h l).drop q := by
      conv => lhs; rw [← List.take_append_drop q (cand xs (hrun xs l m h) h l)]
      rw [List.mem_append]
    by_cases e : i ∈ (cand xs (hrun xs l m h) h l).take q
    · rw [if_pos e]
      exact ⟨fun k => by omega, fun k => absurd k (hdis e)⟩
    · rw [if_neg e, hrun_neg hl m h i hi]
      constructor
      · rintro ⟨k1, k2⟩
        have k3 : (h : Int) ≤ (xs.getD i (0, 0)).2 := by
          apply Classical.byContradiction
          intro k; exact hno ⟨i, hi, k1, by omega⟩
        rcases hor.1 ((hmem i).2 ⟨hi, k1, k2, k3⟩) with k | k
        · exact absurd k e
        · exact k
      · intro k
        have := (hmem i).1 (hor.2 (.inr k))
        exact ⟨this.2.1, this.2.2.1⟩
  generalize hC : cand xs (hrun xs l m h) h l = C at *
  rcases hB with ⟨h1, h2⟩ | ⟨b, h1, h2, h3, h4⟩
  · left
    refine ⟨h1, ?_⟩
    have : C.drop q = [] := by
      rw [List.eq_nil_iff_forall_not_mem]
      intro i hi
      have hx := ((hmem i).1 (List.mem_of_mem_drop hi)).1
      exact h2 i hx ((hav i hx).2 hi)
    have hle : C.length ≤ q := by have := congrArg List.length this; rw [List.length_drop] at this; simp at this; omega
    rw [List.take_of_length_le (by omega), List.take_of_length_le hle]
  · right
    have hbd := (hav b h2).1 h3
    have hq : q < C.length := by have := List.length_pos_of_mem hbd; rw [List.length_drop] at this; omega
    have hd := List.drop_eq_getElem_cons hq
    have hbq : C[q] = b := by
      rw [hd] at hbd
      rcases List.mem_cons.1 hbd with k | k
      · exact k.symm
      · have hcm : C[q] ∈ C.drop q := by rw [hd]; exact List.mem_cons_self
        have hcx := ((hmem C[q]).1 (List.getElem_mem hq)).1
        rcases h4 C[q] hcx ((hav _ hcx).2 hcm) with e | e
        · exact e
        · have hpd := hpw.sublist (List.drop_sublist q C)
          rw [hd, List.pairwise_cons] at hpd
          exact absurd e ((preK_tot (ends xs) xs.length).asymm _ _ (hpd.1 b k))
    refine ⟨b, h1, h2, ((hmem b).1 (List.mem_of_mem_drop hbd)).2.2.2, ?_⟩
    rw [List.take_succ_eq_append_getElem hq, hbq, setL_snoc]
end Go.Proofs.Ytibpaojhjgpdaaa
